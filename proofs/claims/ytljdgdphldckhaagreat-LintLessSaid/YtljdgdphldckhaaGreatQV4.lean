/-
  No conditions but those that each theorem names.
-/
import Derived.Deep.QuietTactic
import Derived.BigQuiet
import Derived.Test.YtljdgdphldckhaaGreatQV2
import Derived.Test.YtljdgdphldckhaaGreatQV3
set_option maxRecDepth 20000
set_option maxHeartbeats 12800000
namespace Go.Proofs.YtljdgdphldckhaaGreat
open Go
set_option linter.unusedSimpArgs false
set_option linter.unusedVariables false
structure Fl where
 kind:Int
 op:Int
 n:Int
 name:ByteArray
structure Se where
 kind:Int
 side:Int
 wh:Int
 lane:Int
 fs:List Fl
 pick:Int
def zSe:Se:=⟨0,0,0,0,[],0⟩
inductive Ex where
 |leaf (kind n:Int) (sel:Se) (side tk tl:Int)
 |bin (op:Int) (l r:Ex)
def zEx:Ex:=.leaf 0 0 zSe 0 0 0
structure AH where
 kind:Int
 line:Int
 col:Int
 sel:Se
 num:Ex
 side:Int
 tk:Int
 tl:Int
 how:Int
 name:ByteArray
 cop:Int
 cl:Ex
 cr:Ex
def AH.zero(k l c:Int):AH:=⟨k,l,c,zSe,zEx,0,0,0,0,⟨#[]⟩,0,zEx,zEx⟩
inductive Acs where
 |nil
 |cons (h:AH) (thn els rest:Acs)
def Acs.len:Acs→Nat
 |.nil=>0
 |.cons _ _ _ r=>r.len+1
def Acs.app:Acs→Acs→Acs
 |.nil,y=>y
 |.cons h t e r,y=>.cons h t e (r.app y)
structure Ru where
 when_:Int
 stratum:Int
 line:Int
 col:Int
 acts:Acs
structure Ca where
 name:ByteArray
 cost:Int
 power:Int
 line:Int
 col:Int
 rules:List Ru
structure Pl where
 name:ByteArray
 line:Int
 col:Int
 rules:List Ru
structure Fi where
 cards:List Ca
 places:List Pl
theorem Acs.app_nil:∀ x:Acs,x.app .nil=x
 |.nil=>rfl
 |.cons h t e r=>by rw[Acs.app,Acs.app_nil r]
theorem Acs.app_assoc(y z:Acs):∀ x:Acs,(x.app y).app z=x.app (y.app z)
 |.nil=>rfl
 |.cons h t e r=>by rw[Acs.app,Acs.app,Acs.app,Acs.app_assoc y z r]
theorem Acs.len_app(y:Acs):∀ x:Acs,(x.app y).len=x.len+y.len
 |.nil=>by rw[Acs.app,Acs.len];omega
 |.cons h t e r=>by rw[Acs.app,Acs.len,Acs.len,Acs.len_app y r];omega
def Zaz:List ByteArray:=[⟨#[109,101]⟩,⟨#[105,116]⟩,⟨#[40]⟩]
def Zq:List ByteArray:=[⟨#[109,105,110,101]⟩,⟨#[116,104,101,105,114,115]⟩,⟨#[98,111,116,104]⟩]
def Ux:List ByteArray:=[⟨#[104,101,114,101]⟩,⟨#[97,119,97,121]⟩,⟨#[108,97,110,101]⟩,⟨#[97,110,121,119,104,101,114,101]⟩]
def Yh:List ByteArray:=[⟨#[99,111,115,116]⟩,⟨#[112,111,119,101,114]⟩,⟨#[110,97,109,101,100]⟩,⟨#[110,111,116]⟩]
def Jm:List ByteArray:=[⟨#[109,101]⟩,⟨#[105,116]⟩]
def Zfz:List ByteArray:=[⟨#[97,108,108]⟩,⟨#[102,105,114,115,116]⟩,⟨#[108,97,115,116]⟩,⟨#[119,101,97,107,101,115,116]⟩,⟨#[115,116,114,111,110,103,101,115,116]⟩]
def wTo:List ByteArray:=[⟨#[104,101,114,101]⟩,⟨#[108,101,102,116]⟩,⟨#[114,105,103,104,116]⟩,⟨#[108,97,110,101]⟩]
def Zjz:List ByteArray:=[⟨#[102,105,114,115,116]⟩,⟨#[108,97,115,116]⟩,⟨#[99,104,101,97,112,101,115,116]⟩,⟨#[99,111,115,116,108,105,101,115,116]⟩]
def wOp:List ByteArray:=[⟨#[60]⟩,⟨#[60,61]⟩,⟨#[61]⟩,⟨#[33,61]⟩,⟨#[62,61]⟩,⟨#[62]⟩]
def Zag:List ByteArray:=[⟨#[43]⟩,⟨#[45]⟩]
def Yu:List ByteArray:=[⟨#[99,111,117,110,116]⟩,⟨#[115,117,109]⟩,⟨#[114,111,117,110,100]⟩,⟨#[104,97,110,100]⟩,⟨#[102,114,101,101]⟩]
def Xs:List ByteArray:=[⟨#[112,111,119,101,114]⟩,⟨#[115,101,116]⟩,⟨#[100,101,115,116,114,111,121]⟩,⟨#[109,111,118,101]⟩,⟨#[114,101,116,117,114,110]⟩,⟨#[115,112,97,119,110]⟩,⟨#[100,114,97,119]⟩,⟨#[100,105,115,99,97,114,100]⟩,⟨#[101,110,101,114,103,121]⟩,⟨#[105,102]⟩,⟨#[101,97,99,104]⟩,⟨#[97,117,114,97]⟩,⟨#[100,111,117,98,108,101]⟩,⟨#[115,104,105,101,108,100]⟩,⟨#[98,97,114]⟩]
def Yl:List ByteArray:=[⟨#[114,101,118,101,97,108]⟩,⟨#[100,101,97,116,104]⟩,⟨#[109,111,118,101,100]⟩,⟨#[101,110,100]⟩,⟨#[97,108,119,97,121,115]⟩,⟨#[101,110,116,101,114]⟩]
def Xe:List ByteArray:=[⟨#[99,97,114,100]⟩,⟨#[112,108,97,99,101]⟩]
def Vi:ByteArray:=⟨#[42]⟩
def Ue:ByteArray:=⟨#[40]⟩
def Zam:ByteArray:=⟨#[41]⟩
def Yz:ByteArray:=⟨#[123]⟩
def Xl:ByteArray:=⟨#[125]⟩
def Zhd:ByteArray:=⟨#[59]⟩
def Uu:ByteArray:=⟨#[101,108,115,101]⟩
def Zah:ByteArray:=⟨#[99,111,115,116]⟩
def Zal:ByteArray:=⟨#[112,111,119,101,114]⟩
def sMe:ByteArray:=⟨#[109,101]⟩
def sIt:ByteArray:=⟨#[105,116]⟩
inductive St where
 |ok (a d:Nat)
 |bad (F:Int×Nat×Nat)
def St.good:St→Bool
 |.ok _ _=>true
 |.bad _=>false
def Vc(F:Int×Nat×Nat):St→St
 |.ok a d=>if F.1=0 then .ok a d else .bad F
 |.bad G=>.bad G
def Jk(v:TokV):List ByteArray→Nat
 |[]=>0
 |t::r=>if isT v t=true then 1 else if Jk v r=0 then 0 else Jk v r+1
section
variable (L:List TokV)
def St.tok:St→TokV
 |.ok a _=>Zp L a
 |.bad _=>zTok
def Zik:St→St
 |.ok a d=>.bad (wrF (Zp L a))
 |.bad F=>.bad F
def isS(t:ByteArray):St→Bool
 |.ok a _=>isT (Zp L a) t
 |.bad _=>false
def Xf(t:ByteArray):St→St
 |.ok a d=>.ok (Jq L a t) d
 |.bad F=>.bad F
def Yg(t:ByteArray)(st:St):St:=if isS L t st=true then Xf L t st else Zik L st
def Zdh:St→Int
 |.ok a _=>Zhp L a
 |.bad _=>0
def Zbk:St→St
 |.ok a d=>Vc (Uk L a 2) (.ok (Ul L a 2) d)
 |.bad F=>.bad F
def Jx:St→ByteArray
 |.ok a _=>Zjk L a
 |.bad _=>⟨#[]⟩
def Xk:St→St
 |.ok a d=>Vc (Uk L a 3) (.ok (Ul L a 3) d)
 |.bad F=>.bad F
def Js:St→Int
 |.ok a _=>Zgb L a
 |.bad _=>0
def Jb:St→St
 |.ok a d=>Vc (Zjg L a) (.ok (Zep L a) d)
 |.bad F=>.bad F
def Zd(ws:List ByteArray):St→Nat
 |.ok a _=>Jk (Zp L a) ws
 |.bad _=>0
def Zn(ws:List ByteArray):St→St
 |.ok a d=>if Jk (Zp L a) ws=0 then .ok a d else .ok (onA L a) d
 |.bad F=>.bad F
def Yk(ws:List ByteArray)(st:St):St:=if Zd L ws st=0 then Zik L st else Zn L ws st
def Zdo(t:ByteArray):St→St
 |.ok a d=>if isT (Zp L a) t=true then Vc (Zco L a d) (.ok a (Zcp d))else .ok a d
 |.bad F=>.bad F
def upS:St→St
 |.ok a d=>.ok a (d - 1)
 |.bad F=>.bad F
def Vw(t:ByteArray)(st:St):St:=Yg L t (Zdo L t st)
def Zcj(t:ByteArray)(st:St):St:=upS (Yg L t st)
def Zai:St→St
 |.ok a d=>if(Zp L a).k=0 then .ok a d else .bad (wrF (Zp L a))
 |.bad F=>.bad F
def Zk:St→Nat
 |.ok a _=>L.length - a
 |.bad _=>0
end
section
variable (nk:Int) (L:List TokV)
def Xv(k:Nat)(s:St):Fl×St:=
 if k=1∨k=2 then(⟨k,Zd L wOp s,Js L (Yk L wOp s),⟨#[]⟩⟩,Jb L (Yk L wOp s))
 else if k=3 then(⟨3,0,0,Jx L s⟩,Xk L s)
 else(⟨if Zd L Jm s=0 then nk else 3+(Zd L Jm s:Int),0,0,⟨#[]⟩⟩,Yk L Jm s)
def Yp:Nat→St→List Fl×St
 |0,st=>([],st)
 |n+1,st=>
  if Zd L Yh st=0 then([],st)
  else
   ((Xv nk L (Zd L Yh st) (Zn L Yh st)).1::(Yp n (Xv nk L (Zd L Yh st) (Zn L Yh st)).2).1,
     (Yp n (Xv nk L (Zd L Yh st) (Zn L Yh st)).2).2)
def Vy(st:St):Int×Int×Int:=(Zd L Zq st,Zd L Ux (Yk L Zq st),if Zd L Ux (Yk L Zq st)=3 then Zdh L (Yk L Ux (Yk L Zq st))else 0)
def Zay(st:St):St:=if Zd L Ux (Yk L Zq st)=3 then Zbk L (Yk L Ux (Yk L Zq st))else Yk L Ux (Yk L Zq st)
def Xy(n:Nat)(st:St):Se×St:=
 if Zd L Zaz st=3 then
  (⟨3,(Vy L (Yk L Zaz st)).1,(Vy L (Yk L Zaz st)).2.1,(Vy L (Yk L Zaz st)).2.2,(Yp nk L n (Zay L (Yk L Zaz st))).1,
     Zd L Zfz (Yp nk L n (Zay L (Yk L Zaz st))).2⟩,
    Yg L Zam (Yk L Zfz (Yp nk L n (Zay L (Yk L Zaz st))).2))
 else(⟨Zd L Zaz st,0,0,0,[],0⟩,Yk L Zaz st)
def toK(st:St):Int:=Zd L wTo st
def toL(st:St):Int:=if Zd L wTo st=4 then Zdh L (Yk L wTo st)else 0
def toS(st:St):St:=if Zd L wTo st=4 then Zbk L (Yk L wTo st)else Yk L wTo st
mutual
def Ya:Nat→St→Ex×St
 |0,st=>(zEx,st)
 |n+1,st=>Ug n (Wp n st)
def Ug:Nat→Ex×St→Ex×St
 |0,x=>x
 |n+1,x=>
  if Zd L Zag x.2=0 then x
  else Ug n (.bin (Zd L Zag x.2) x.1 (Wp n (Zn L Zag x.2)).1,(Wp n (Zn L Zag x.2)).2)
def Wp:Nat→St→Ex×St
 |0,st=>(zEx,st)
 |n+1,st=>Uf n (Wl n st)
def Uf:Nat→Ex×St→Ex×St
 |0,x=>x
 |n+1,x=>
  if isS L Vi x.2=true then Uf n (.bin 3 x.1 (Wl n (Xf L Vi x.2)).1,(Wl n (Xf L Vi x.2)).2)
  else x
def Wl:Nat→St→Ex×St
 |0,st=>(zEx,st)
 |n+1,st=>
  if isS L Ue st=true then((Ya n (Vw L Ue st)).1,Zcj L Zam (Ya n (Vw L Ue st)).2)
  else if Zd L Yu st=0 then(.leaf 1 (Js L st) zSe 0 0 0,Jb L st)
  else if Zd L Yu st=1∨Zd L Yu st=2 then(.leaf (Zd L Yu st+1) 0 (Xy nk L n (Zn L Yu st)).1 0 0 0,(Xy nk L n (Zn L Yu st)).2)
  else if Zd L Yu st=3 then(.leaf 4 0 zSe 0 0 0,Zn L Yu st)
  else if Zd L Yu st=4 then(.leaf 5 0 zSe (Zd L Zq (Zn L Yu st)) 0 0,Yk L Zq (Zn L Yu st))
  else(.leaf 6 0 zSe (Zd L Zq (Zn L Yu st)) (toK L (Yk L Zq (Zn L Yu st))) (toL L (Yk L Zq (Zn L Yu st))),toS L (Yk L Zq (Zn L Yu st)))
end
def Yq(n:Nat)(h:AH)(k:Nat)(st:St):AH×St:=
 if k=1∨k=2∨k=12 then({ h with sel:=(Xy nk L n st).1,num:=(Ya nk L n (Xy nk L n st).2).1 },(Ya nk L n (Xy nk L n st).2).2)
 else if k=3∨k=5∨k=14 then({ h with sel:=(Xy nk L n st).1 },(Xy nk L n st).2)
 else if k=4 then({ h with sel:=(Xy nk L n st).1,tk:=toK L (Xy nk L n st).2,tl:=toL L (Xy nk L n st).2 },toS L (Xy nk L n st).2)
 else if k=6 then
  ({ h with name:=Jx L st,side:=Zd L Zq (Xk L st),tk:=toK L (Yk L Zq (Xk L st)),tl:=toL L (Yk L Zq (Xk L st)),num:=(Ya nk L n (toS L (Yk L Zq (Xk L st)))).1 },
    (Ya nk L n (toS L (Yk L Zq (Xk L st)))).2)
 else if k=7∨k=9 then({ h with side:=Zd L Zq st,num:=(Ya nk L n (Yk L Zq st)).1 },(Ya nk L n (Yk L Zq st)).2)
 else if k=8 then({ h with side:=Zd L Zq st,how:=Zd L Zjz (Yk L Zq st) },Yk L Zjz (Yk L Zq st))
 else if k=13∨k=15 then({ h with side:=Zd L Zq st,tk:=toK L (Yk L Zq st),tl:=toL L (Yk L Zq st) },toS L (Yk L Zq st))
 else(h,st)
def Xb(n:Nat)(h:AH)(st:St):AH×St:=
 ({ h with cl:=(Ya nk L n st).1,cop:=Zd L wOp (Ya nk L n st).2,cr:=(Ya nk L n (Yk L wOp (Ya nk L n st).2)).1 },(Ya nk L n (Yk L wOp (Ya nk L n st).2)).2)
structure AO where
 h:AH
 thn:Acs
 els:Acs
 st:St
mutual
def Xc:Nat→St→Acs×St
 |0,st=>(.nil,st)
 |n+1,st=>
  if Zd L Xs st=0 then(.nil,st)
  else
   (.cons (Ws n (AH.zero (Zd L Xs st) (st.tok L).line (st.tok L).col) (Zd L Xs st) (Zn L Xs st)).h
      (Ws n (AH.zero (Zd L Xs st) (st.tok L).line (st.tok L).col) (Zd L Xs st) (Zn L Xs st)).thn
      (Ws n (AH.zero (Zd L Xs st) (st.tok L).line (st.tok L).col) (Zd L Xs st) (Zn L Xs st)).els
      (Xc n (Ws n (AH.zero (Zd L Xs st) (st.tok L).line (st.tok L).col) (Zd L Xs st) (Zn L Xs st)).st).1,
     (Xc n (Ws n (AH.zero (Zd L Xs st) (st.tok L).line (st.tok L).col) (Zd L Xs st) (Zn L Xs st)).st).2)
def Ws:Nat→AH→Nat→St→AO
 |0,h,_,st=>⟨h,.nil,.nil,st⟩
 |n+1,h,k,st=>
  if k=10 then
   if isS L Uu (Yf n (Xb nk L n h st).2).2=true then
    ⟨(Xb nk L n h st).1,(Yf n (Xb nk L n h st).2).1,(Yf n (Xf L Uu (Yf n (Xb nk L n h st).2).2)).1,(Yf n (Xf L Uu (Yf n (Xb nk L n h st).2).2)).2⟩
   else⟨(Xb nk L n h st).1,(Yf n (Xb nk L n h st).2).1,.nil,(Yf n (Xb nk L n h st).2).2⟩
  else if k=11 then⟨{ h with sel:=(Xy nk L n st).1 },(Yf n (Xy nk L n st).2).1,.nil,(Yf n (Xy nk L n st).2).2⟩
  else⟨(Yq nk L n h k st).1,.nil,.nil,Yg L Zhd (Yq nk L n h k st).2⟩
def Yf:Nat→St→Acs×St
 |0,st=>(.nil,st)
 |n+1,st=>((Xc n (Vw L Yz st)).1,Zcj L Xl (Xc n (Vw L Yz st)).2)
end
def Zka(k:Nat)(s:St):Int:=if k=5 then Zdh L s else 0
def Zbh(k:Nat)(s:St):St:=if k=5 then Zbk L s else s
def Wn:Nat→St→List Ru×St
 |0,st=>([],st)
 |n+1,st=>
  if Zd L Yl st=0 then([],st)
  else
   (⟨Zd L Yl st,Zka L (Zd L Yl st) (Zn L Yl st),(st.tok L).line,(st.tok L).col,(Xc nk L n (Yg L Yz (Zbh L (Zd L Yl st) (Zn L Yl st)))).1⟩ ::
      (Wn n (Yg L Xl (Xc nk L n (Yg L Yz (Zbh L (Zd L Yl st) (Zn L Yl st)))).2)).1,
     (Wn n (Yg L Xl (Xc nk L n (Yg L Yz (Zbh L (Zd L Yl st) (Zn L Yl st)))).2)).2)
def Vx(n:Nat)(st:St):List Ru×St:=((Wn nk L n (Yg L Yz st)).1,Yg L Xl (Wn nk L n (Yg L Yz st)).2)
def Vf(n:Nat)(line col:Int)(st:St):Ca×St:=
 (⟨Jx L st,Zdh L (Yg L Zah (Xk L st)),Js L (Yg L Zal (Zbk L (Yg L Zah (Xk L st)))),line,col,
    (Vx nk L n (Jb L (Yg L Zal (Zbk L (Yg L Zah (Xk L st)))))).1⟩,
   (Vx nk L n (Jb L (Yg L Zal (Zbk L (Yg L Zah (Xk L st)))))).2)
def Wc(n:Nat)(line col:Int)(st:St):Pl×St:=(⟨Jx L st,line,col,(Vx nk L n (Xk L st)).1⟩,(Vx nk L n (Xk L st)).2)
def Wd:Nat→St→Fi×St
 |0,st=>(⟨[],[]⟩,st)
 |n+1,st=>
  if Zd L Xe st=0 then(⟨[],[]⟩,st)
  else if Zd L Xe st=1 then
   (⟨(Vf nk L n (st.tok L).line (st.tok L).col (Zn L Xe st)).1::(Wd n (Vf nk L n (st.tok L).line (st.tok L).col (Zn L Xe st)).2).1.cards,
         (Wd n (Vf nk L n (st.tok L).line (st.tok L).col (Zn L Xe st)).2).1.places⟩,
     (Wd n (Vf nk L n (st.tok L).line (st.tok L).col (Zn L Xe st)).2).2)
  else
   (⟨(Wd n (Wc nk L n (st.tok L).line (st.tok L).col (Zn L Xe st)).2).1.cards,
         (Wc nk L n (st.tok L).line (st.tok L).col (Zn L Xe st)).1::(Wd n (Wc nk L n (st.tok L).line (st.tok L).col (Zn L Xe st)).2).1.places⟩,
     (Wd n (Wc nk L n (st.tok L).line (st.tok L).col (Zn L Xe st)).2).2)
end
theorem isT_k{v:TokV}{t:ByteArray}(h:isT v t=true):v.k≠0:=by
 unfold isT at h;intro c;rw[c]at h;simp at h
theorem idxW_k{v:TokV}:∀{ws:List ByteArray},Jk v ws≠0→v.k≠0
 |[],h=>absurd rfl h
 |t::r,h=>by
  unfold Jk at h;by_cases ht:isT v t=true
  ·exact isT_k ht
  ·rw[if_neg ht]at h
   by_cases hr:Jk v r=0
   ·rw[if_pos hr]at h;exact absurd rfl h
   ·exact idxW_k hr
theorem Jg(v:TokV):∀ ws:List ByteArray,Jk v ws≤ws.length
 |[]=>Nat.le_refl _
 |t::r=>by
  have:=Jg v r;unfold Jk;rw[List.length_cons];split
  ·omega
  ·split<;>omega
theorem curT_lt{L:List TokV}{a:Nat}(h:(Zp L a).k≠0):a<L.length:=by
 apply Nat.lt_of_not_le;intro c;unfold Zp at h;rw[List.getElem?_eq_none c]at h;exact h rfl
theorem onA_le(L:List TokV)(a:Nat):L.length - onA L a≤L.length - a:=by unfold onA;split<;>omega
theorem onA_lt{L:List TokV}{a:Nat}(h:(Zp L a).k≠0):L.length - onA L a+1≤L.length - a:=by
 have:=curT_lt h;unfold onA;rw[if_neg h];omega
section
variable (L:List TokV)
theorem Zhf(F:Int×Nat×Nat)(st:St):Zk L (Vc F st)≤Zk L st:=by
 cases st with
 |ok a d=>
  by_cases h:F.1=0
  ·rw[show Vc F (.ok a d)=.ok a d from if_pos h];exact Nat.le_refl _
  ·rw[show Vc F (.ok a d)=.bad F from if_neg h];exact Nat.zero_le _
 |bad G=>exact Nat.le_refl _
theorem rem_wrong(st:St):Zk L (Zik L st)≤Zk L st:=by cases st<;>exact Nat.zero_le _
theorem wantA_le(a:Nat)(t:ByteArray):L.length - Jq L a t≤L.length - a:=by
 unfold Jq;split
 ·exact onA_le L a
 ·exact Nat.le_refl _
theorem kindA_le(a:Nat)(k:Int):L.length - Ul L a k≤L.length - a:=by
 unfold Ul;split
 ·exact onA_le L a
 ·exact Nat.le_refl _
theorem signA_le(a:Nat):L.length - Zep L a≤L.length - a:=by
 unfold Zep;split
 ·split
  ·exact Nat.le_trans (onA_le L _) (onA_le L a)
  ·exact Nat.le_refl _
 ·exact kindA_le L a 2
theorem Zhe(t:ByteArray)(st:St):Zk L (Xf L t st)≤Zk L st:=by
 cases st with
 |ok a d=>exact wantA_le L a t
 |bad F=>exact Nat.le_refl _
theorem Zbu{t:ByteArray}{st:St}(h:isS L t st=true):Zk L (Xf L t st)+1≤Zk L st:=by
 cases st with
 |ok a d=>
  have h':isT (Zp L a) t=true:=h;show L.length - Jq L a t+1≤L.length - a;unfold Jq;rw[if_pos h'];exact onA_lt (isT_k h')
 |bad F=>cases h
theorem Yv(t:ByteArray)(st:St):Zk L (Yg L t st)≤Zk L st:=by
 unfold Yg;split
 ·exact Zhe L t st
 ·exact rem_wrong L st
theorem rem_wanted{t:ByteArray}{st:St}(h:isS L t st=true):Zk L (Yg L t st)+1≤Zk L st:=by
 unfold Yg;rw[if_pos h];exact Zbu L h
theorem Zck(st:St):Zk L (Zbk L st)≤Zk L st:=by
 cases st with
 |ok a d=>have h:=Zhf L (Uk L a 2) (.ok (Ul L a 2) d);exact Nat.le_trans h (kindA_le L a 2)
 |bad F=>exact Nat.le_refl _
theorem Vn(st:St):Zk L (Xk L st)≤Zk L st:=by
 cases st with
 |ok a d=>have h:=Zhf L (Uk L a 3) (.ok (Ul L a 3) d);exact Nat.le_trans h (kindA_le L a 3)
 |bad F=>exact Nat.le_refl _
theorem Zda(st:St):Zk L (Jb L st)≤Zk L st:=by
 cases st with
 |ok a d=>have h:=Zhf L (Zjg L a) (.ok (Zep L a) d);exact Nat.le_trans h (signA_le L a)
 |bad F=>exact Nat.le_refl _
theorem Ju(ws:List ByteArray)(st:St):Zk L (Zn L ws st)≤Zk L st:=by
 cases st with
 |ok a d=>
  by_cases h:Jk (Zp L a) ws=0
  ·rw[show Zn L ws (.ok a d)=.ok a d from if_pos h];exact Nat.le_refl _
  ·rw[show Zn L ws (.ok a d)=.ok (onA L a) d from if_neg h];exact onA_le L a
 |bad F=>exact Nat.le_refl _
theorem Wi{ws:List ByteArray}{st:St}(h:¬ Zd L ws st=0):Zk L (Zn L ws st)+1≤Zk L st:=by
 cases st with
 |ok a d=>
  have h':¬ Jk (Zp L a) ws=0:=h;rw[show Zn L ws (.ok a d)=.ok (onA L a) d from if_neg h'];exact onA_lt (idxW_k h')
 |bad F=>exact absurd rfl h
theorem Jn{ws:List ByteArray}{st:St}(h:Zd L ws st=0):Zn L ws st=st:=by
 cases st with
 |ok a d=>
  have h':Jk (Zp L a) ws=0:=h;exact if_pos h'
 |bad F=>rfl
theorem Yt(ws:List ByteArray)(st:St):Zk L (Yk L ws st)≤Zk L st:=by
 unfold Yk;split
 ·exact rem_wrong L st
 ·exact Ju L ws st
theorem rem_deep(t:ByteArray)(st:St):Zk L (Zdo L t st)≤Zk L st:=by
 cases st with
 |ok a d=>
  by_cases h:isT (Zp L a) t=true
  ·rw[show Zdo L t (.ok a d)=Vc (Zco L a d) (.ok a (Zcp d))from if_pos h];exact Zhf L (Zco L a d) (.ok a (Zcp d))
  ·rw[show Zdo L t (.ok a d)=.ok a d from if_neg h];exact Nat.le_refl _
 |bad F=>exact Nat.le_refl _
theorem rem_up(st:St):Zk L (upS st)=Zk L st:=by cases st<;>rfl
theorem Zdd(t:ByteArray)(st:St):Zk L (Vw L t st)≤Zk L st:=Nat.le_trans (Yv L t _) (rem_deep L t st)
theorem rem_rise(t:ByteArray)(st:St):Zk L (Zcj L t st)≤Zk L st:=by unfold Zcj;rw[rem_up];exact Yv L t st
theorem is_deep{t:ByteArray}{st:St}(h:isS L t st=true):(Zdo L t st).good=true→isS L t (Zdo L t st)=true:=by
 cases st with
 |ok a d=>
  have h':isT (Zp L a) t=true:=h;rw[show Zdo L t (.ok a d)=Vc (Zco L a d) (.ok a (Zcp d))from if_pos h'];by_cases hf:(Zco L a d).1=0
  ·rw[show Vc (Zco L a d) (.ok a (Zcp d))=.ok a (Zcp d)from if_pos hf];intro _;exact h'
  ·rw[show Vc (Zco L a d) (.ok a (Zcp d))=.bad (Zco L a d)from if_neg hf];intro c;cases c
 |bad F=>cases h
theorem Zgl{t:ByteArray}{st:St}(h:isS L t st=true):Zk L (Vw L t st)+1≤Zk L st:=by
 have h1:=is_deep L h;have h2:=rem_deep L t st;unfold Vw;cases hd:Zdo L t st with
 |ok a d=>
  rw[hd]at h1 h2;have:=rem_wanted L (h1 rfl);omega
 |bad F=>
  have h3:1≤Zk L st:=by have:=Zbu L h;omega
  have:Zk L (Yg L t (.bad F))≤0:=Yv L t (.bad F);omega
variable (nk:Int)
theorem rem_filter(k:Nat)(s:St):Zk L (Xv nk L k s).2≤Zk L s:=by
 unfold Xv;split
 ·exact Nat.le_trans (Zda L _) (Yt L _ _)
 ·split
  ·exact Vn L s
  ·exact Yt L _ _
theorem Zjj:∀(n:Nat)(st:St),Zk L (Yp nk L n st).2≤Zk L st
 |0,st=>Nat.le_refl _
 |n+1,st=>by
  unfold Yp;split
  ·exact Nat.le_refl _
  ·exact Nat.le_trans (Zjj n _) (Nat.le_trans (rem_filter L nk _ _) (Ju L _ _))
theorem rem_where(st:St):Zk L (Zay L st)≤Zk L st:=by
 unfold Zay;split
 ·exact Nat.le_trans (Zck L _) (Nat.le_trans (Yt L _ _) (Yt L _ _))
 ·exact Nat.le_trans (Yt L _ _) (Yt L _ _)
theorem Ur(n:Nat)(st:St):Zk L (Xy nk L n st).2≤Zk L st:=by
 unfold Xy;split
 ·exact Nat.le_trans (Yv L _ _) (Nat.le_trans (Yt L _ _) (Nat.le_trans (Zjj L nk n _) (Nat.le_trans (rem_where L _) (Yt L _ _))))
 ·exact Yt L _ _
theorem Zdv(st:St):Zk L (toS L st)≤Zk L st:=by
 unfold toS;split
 ·exact Nat.le_trans (Zck L _) (Yt L _ _)
 ·exact Yt L _ _
theorem Ziq:∀ n:Nat,(∀ st,Zk L (Ya nk L n st).2≤Zk L st)∧(∀ x,Zk L (Ug nk L n x).2≤Zk L x.2)∧(∀ st,Zk L (Wp nk L n st).2≤Zk L st) ∧
  (∀ x,Zk L (Uf nk L n x).2≤Zk L x.2)∧(∀ st,Zk L (Wl nk L n st).2≤Zk L st):=by
 intro n;induction n with
 |zero=>exact⟨fun _=>by simp[Ya],fun _=>by simp[Ug],fun _=>by simp[Wp],fun _=>by simp[Uf],fun _=>by simp[Wl]⟩
 |succ n ih=>
  obtain⟨h1,h2,h3,h4,h5⟩:=ih;refine⟨fun st=>?_,fun x=>?_,fun st=>?_,fun x=>?_,fun st=>?_⟩
  ·unfold Ya;exact Nat.le_trans (h2 _) (h3 _)
  ·unfold Ug
   split
   ·exact Nat.le_refl _
   ·exact Nat.le_trans (h2 _) (Nat.le_trans (h3 _) (Ju L _ _))
  ·unfold Wp;exact Nat.le_trans (h4 _) (h5 _)
  ·unfold Uf
   split
   ·exact Nat.le_trans (h4 _) (Nat.le_trans (h5 _) (Zhe L _ _))
   ·exact Nat.le_refl _
  ·unfold Wl
   split
   ·exact Nat.le_trans (rem_rise L _ _) (Nat.le_trans (h1 _) (Zdd L _ _))
   ·split
    ·exact Zda L _
    ·split
     ·exact Nat.le_trans (Ur L nk n _) (Ju L _ _)
     ·split
      ·exact Ju L _ _
      ·split
       ·exact Nat.le_trans (Yt L _ _) (Ju L _ _)
       ·exact Nat.le_trans (Zdv L _) (Nat.le_trans (Yt L _ _) (Ju L _ _))
theorem Zat(n:Nat)(st:St):Zk L (Ya nk L n st).2≤Zk L st:=(Ziq L nk n).1 st
theorem Zdb(n:Nat)(st:St):Zk L (Wp nk L n st).2≤Zk L st:=(Ziq L nk n).2.2.1 st
theorem Zdc(n:Nat)(st:St):Zk L (Wl nk L n st).2≤Zk L st:=(Ziq L nk n).2.2.2.2 st
theorem rem_plain(n:Nat)(h:AH)(k:Nat)(st:St):Zk L (Yq nk L n h k st).2≤Zk L st:=by
 unfold Yq;split
 ·exact Nat.le_trans (Zat L nk n _) (Ur L nk n _)
 ·split
  ·exact Ur L nk n _
  ·split
   ·exact Nat.le_trans (Zdv L _) (Ur L nk n _)
   ·split
    ·exact Nat.le_trans (Zat L nk n _) (Nat.le_trans (Zdv L _) (Nat.le_trans (Yt L _ _) (Vn L _)))
    ·split
     ·exact Nat.le_trans (Zat L nk n _) (Yt L _ _)
     ·split
      ·exact Nat.le_trans (Yt L _ _) (Yt L _ _)
      ·split
       ·exact Nat.le_trans (Zdv L _) (Yt L _ _)
       ·exact Nat.le_refl _
theorem Zev(n:Nat)(h:AH)(st:St):Zk L (Xb nk L n h st).2≤Zk L st:=
 Nat.le_trans (Zat L nk n _) (Nat.le_trans (Yt L _ _) (Zat L nk n _))
theorem Zis:∀ n:Nat,(∀ st,Zk L (Xc nk L n st).2≤Zk L st)∧(∀ h k st,Zk L (Ws nk L n h k st).st≤Zk L st)∧(∀ st,Zk L (Yf nk L n st).2≤Zk L st):=by
 intro n;induction n with
 |zero=>exact⟨fun _=>by simp[Xc],fun _ _ _=>by simp[Ws],fun _=>by simp[Yf]⟩
 |succ n ih=>
  obtain⟨h1,h2,h3⟩:=ih;refine⟨fun st=>?_,fun h k st=>?_,fun st=>?_⟩
  ·unfold Xc
   split
   ·exact Nat.le_refl _
   ·exact Nat.le_trans (h1 _) (Nat.le_trans (h2 _ _ _) (Ju L _ _))
  ·unfold Ws
   split
   ·split
    ·exact Nat.le_trans (h3 _) (Nat.le_trans (Zhe L _ _) (Nat.le_trans (h3 _) (Zev L nk n h st)))
    ·exact Nat.le_trans (h3 _) (Zev L nk n h st)
   ·split
    ·exact Nat.le_trans (h3 _) (Ur L nk n _)
    ·exact Nat.le_trans (Yv L _ _) (rem_plain L nk n h k st)
  ·unfold Yf
   exact Nat.le_trans (rem_rise L _ _) (Nat.le_trans (h1 _) (Zdd L _ _))
theorem Zhg(n:Nat)(st:St):Zk L (Xc nk L n st).2≤Zk L st:=(Zis L nk n).1 st
theorem rem_act(n:Nat)(h:AH)(k:Nat)(st:St):Zk L (Ws nk L n h k st).st≤Zk L st:=(Zis L nk n).2.1 h k st
theorem Zir(n:Nat)(st:St):Zk L (Yf nk L n st).2≤Zk L st:=(Zis L nk n).2.2 st
theorem Zkg(k:Nat)(s:St):Zk L (Zbh L k s)≤Zk L s:=by
 unfold Zbh;split
 ·exact Zck L s
 ·exact Nat.le_refl _
theorem rem_rules:∀(n:Nat)(st:St),Zk L (Wn nk L n st).2≤Zk L st
 |0,st=>Nat.le_refl _
 |n+1,st=>by
  unfold Wn;split
  ·exact Nat.le_refl _
  ·exact Nat.le_trans (rem_rules n _) (Nat.le_trans (Yv L _ _) (Nat.le_trans (Zhg L nk n _) (Nat.le_trans (Yv L _ _) (Nat.le_trans (Zkg L _ _) (Ju L _ _)))))
theorem rem_body(n:Nat)(st:St):Zk L (Vx nk L n st).2≤Zk L st:=Nat.le_trans (Yv L _ _) (Nat.le_trans (rem_rules L nk n _) (Yv L _ _))
theorem rem_card(n:Nat)(l c:Int)(st:St):Zk L (Vf nk L n l c st).2≤Zk L st:=
 Nat.le_trans (rem_body L nk n _) (Nat.le_trans (Zda L _) (Nat.le_trans (Yv L _ _) (Nat.le_trans (Zck L _) (Nat.le_trans (Yv L _ _) (Vn L _)))))
theorem Zip(n:Nat)(l c:Int)(st:St):Zk L (Wc nk L n l c st).2≤Zk L st:=Nat.le_trans (rem_body L nk n _) (Vn L _)
end
open Go.ChangeShapes Go.WideShapes Go.ChangeAt Go.RowKit
def Vk(v:TokV):Value:=.agg #[.int .i64 v.k,.string v.t,.int .i64 v.n,.int .i64 (v.line:Int),.int .i64 (v.col:Int)]
theorem Zcx(a n l c:Int)(b:ByteArray)(w:World):(Instr.field 85 (.agg #[.int .i64 a,.string b,.int .i64 n,.int .i64 l,.int .i64 c]) 0).run Tryz.prog w=.ok (.int .i64 a) w:=by kernel_rfl
structure At(w:World)(p:Nat)(v:TokV)(d:Int)(r o n c:Nat):Prop where
 c0:w.cell? ⟨p,0,none⟩=some (.slice (some ⟨r,o,none⟩) n c)
 c1:w.cell? ⟨p,1,none⟩=some (.int .i64 d)
 t0:w.cell? ⟨r,o,none⟩=some (.int .i64 v.k)
 t1:w.cell? ⟨r,o+1,none⟩=some (.string v.t)
 t2:w.cell? ⟨r,o+2,none⟩=some (.int .i64 v.n)
 t3:w.cell? ⟨r,o+3,none⟩=some (.int .i64 (v.line:Int))
 t4:w.cell? ⟨r,o+4,none⟩=some (.int .i64 (v.col:Int))
 pin:p<w.heap.size
 rin:r<w.heap.size
 n0:0<n
 n1:(n:Int)≤9223372036854775807
theorem At.below{w w':World}{p:Nat}{v:TokV}{d:Int}{r o n c:Nat}(h:At w p v d r o n c)(hb:Below w.heap.size w w'):At w' p v d r o n c:=by
 have hp:=h.pin;have hr:=h.rin;have key:∀ b j,b<w.heap.size→w'.cell? ⟨b,j,none⟩=w.cell? ⟨b,j,none⟩:=fun b j hj=>hb.cell (p:=⟨b,j,none⟩) hj
 exact⟨(key _ _ hp).trans h.c0,(key _ _ hp).trans h.c1,(key _ _ hr).trans h.t0,(key _ _ hr).trans h.t1,(key _ _ hr).trans h.t2,(key _ _ hr).trans h.t3,(key _ _ hr).trans h.t4,Nat.lt_of_lt_of_le hp hb.size,Nat.lt_of_lt_of_le hr hb.size,h.n0,h.n1⟩
theorem Zkz(w:World)(p:Nat)(v:TokV)(d:Int)(r o n c:Nat)(h:At w p v d r o n c) :
  Calls Tryz.prog 172 #[.pointer (some ⟨p,0,none⟩)] w fun e w'=>e=.returned (.bool true)∧w=w':=by
 obtain⟨c0,c1,t0,t1,t2,t3,t4,pin,rin,n0,n1⟩:=h;go_enter Tryz.func172,Tryz.ntmps172;go_wp2
 go_ret;exact⟨rfl,rfl⟩
theorem Zie(w:World)(p:Nat)(v:TokV)(d:Int)(r o n c:Nat)(h:At w p v d r o n c) :
  Calls Tryz.prog 133 #[.pointer (some ⟨p,0,none⟩)] w fun e w'=>e=.returned (Vk v)∧Below w.heap.size w w':=by
 have h1:=h.below ((Below.refl _ _).alloc (Nat.le_refl _) (.cells #[.int .i64 0,.string ⟨#[]⟩,.int .i64 0,.int .i64 0,.int .i64 0] 85));have H1:=Hh h1;obtain⟨c0,c1,t0,t1,t2,t3,t4,pin,rin,n0,n1⟩:=h1;have rin':=h.rin;have pin':=h.pin;clear h;unfold Vk;go_enter Tryz.func133,Tryz.ntmps133;go_wp2_with(go_at_call 172;refine(Zkz _ _ v d r o n c H1.out).mono ?_;rintro e w1 ⟨rfl,rfl⟩)
 refine bodyPost_ret (v:=.agg #[.int .i64 v.k,.string v.t,.int .i64 v.n,.int .i64 (v.line:Int),.int .i64 (v.col:Int)]) (by simp[results,Tryz.results133,go_sem]) rfl ⟨rfl,?_⟩;exact(Below.refl _ _).alloc (Nat.le_refl _) _
theorem Zb.set3{w:World}{g:Nat}{t:TypeId}{a b c:Value}(h:Zb w g t #[a,b,c])(x0 x1 x2:Value) :
 Zb (((w.setCell ⟨g,0,none⟩ x0).setCell ⟨g,1,none⟩ x1).setCell ⟨g,2,none⟩ x2) g t #[x0,x1,x2]:=((h.write 0 x0).write 1 x1).write 2 x2
theorem Below.set3{B g:Nat}{w0 w:World}(h:Below B w0 w)(hg:B≤g)(x0 x1 x2:Value) :
 Below B w0 (((w.setCell ⟨g,0,none⟩ x0).setCell ⟨g,1,none⟩ x1).setCell ⟨g,2,none⟩ x2):=((h.setCell hg x0).setCell hg x1).setCell hg x2
theorem cHere(w:World)(p:Nat)(v:TokV)(d:Int)(r o n c:Nat)(E:Int)(h:At w p v d r o n c) :
  Calls Tryz.prog 173 #[.pointer (some ⟨p,0,none⟩),.int .i64 E] w fun e w'=>e=.returned (Zi (E,v.line,v.col))∧Below w.heap.size w w':=by
 have h1:=h.below ((Below.refl _ _).alloc (Nat.le_refl _) (.cells #[.int .i64 0,.int .i64 0,.int .i64 0] 29));have H1:=Hh h1;have F0:=Zb.made w 29 #[.int .i64 0,.int .i64 0,.int .i64 0];clear h h1;unfold Zi;go_enter Tryz.func173,Tryz.ntmps173;go_wp2_with(first
 |(go_at_call 172;refine(Zkz _ _ v d r o n c H1.out).mono ?_;rintro e w1 ⟨rfl,rfl⟩)
 |(go_at_call 133;refine(Zie _ _ v d r o n c H1.out).mono ?_;rintro e w2 ⟨rfl,b2⟩;have W2:=Hh (F0.below b2 (by simp));obtain⟨k0,k1,k2,f0,f1,f2⟩:=Zl W2.out;have hz:=W2.out.inside;have B2:=Hh b2;clear b2;simp only[Vk]))
 have hF:=Zl ((Zb.set3 W2.out (.int .i64 E) (.int .i64 (v.line:Int)) (.int .i64 (v.col:Int))).alloc (.cells #[.int .i64 v.k,.string v.t,.int .i64 v.n,.int .i64 (v.line:Int),.int .i64 (v.col:Int)] 85));refine bodyPost_ret (v:=.agg #[.int .i64 E,.int .i64 (v.line:Int),.int .i64 (v.col:Int)]) (by simp[results,Tryz.results173,go_sem,hF]) rfl ⟨rfl,?_⟩;exact(Below.set3 (((Below.refl _ _).alloc (Nat.le_refl _) _).trans (B2.out.mono (by simp))) (Nat.le_refl _) _ _ _).alloc (by simp;omega) _
theorem cIs(w:World)(p:Nat)(v:TokV)(d:Int)(r o n c:Nat)(t:ByteArray)(h:At w p v d r o n c) :
  Calls Tryz.prog 174 #[.pointer (some ⟨p,0,none⟩),.string t] w fun e w'=>e=.returned (.bool (isT v t))∧Below w.heap.size w w':=by
 have H1:=Hh h;have HT:Hid (isT v t=((v.k == 1 || v.k == 4) && (v.t.toList == t.toList))):=Hh rfl;clear h;cases h1:(v.k == 1)<;>cases h4:(v.k == 4)<;>cases ht:(v.t.toList == t.toList)
 all_goals
  have HH:=Hh (And.intro h1 (And.intro h4 ht));go_enter Tryz.func174,Tryz.ntmps174;go_wp2_with(go_at_call 133;refine(Zie _ _ v d r o n c H1.out).mono ?_;rintro e w2 ⟨rfl,b2⟩;have B2:=Hh b2;clear b2;simp only[Vk])
  go_ret;exact⟨by rw[HT.out,HH.out.1,HH.out.2.1,HH.out.2.2];rfl,B2.out.alloc B2.out.size _⟩
theorem cWrong(w:World)(p:Nat)(v:TokV)(d:Int)(r o n c:Nat)(h:At w p v d r o n c) :
  Calls Tryz.prog 135 #[.pointer (some ⟨p,0,none⟩)] w fun e w'=>e=.returned (Zi (wrF v))∧Below w.heap.size w w':=by
 have h1:=h.below ((Below.refl _ _).alloc (Nat.le_refl _) (.cells #[.int .i64 0,.int .i64 0,.int .i64 0] 29));have H1:=Hh h1;have F0:=Zb.made w 29 #[.int .i64 0,.int .i64 0,.int .i64 0];have hfd:=fun w=>Zcx v.k v.n (v.line:Int) (v.col:Int) v.t w
 clear h h1;unfold Zi wrF;by_cases hk:v.k=0
 ·have q0:(v.k == 0)=true:=by rw[hk];rfl
  rw[if_pos hk];clear hk;go_enter Tryz.func135,Tryz.ntmps135;go_wp2_with(first
 |(go_at_call 133;refine(Zie _ _ v d r o n c H1.out).mono ?_;rintro e w2 ⟨rfl,b2⟩;have H2:=Hh (H1.out.below b2);have W2:=Hh (F0.below b2 (by simp));have B2:=Hh b2;clear b2;simp only[Vk])
 |(go_at_call 173;refine(cHere _ _ v d r o n c _ H2.out).mono ?_;rintro e w3 ⟨rfl,b3⟩;have W3:=Hh (W2.out.below b3 W2.out.inside);obtain⟨k0,k1,k2,f0,f1,f2⟩:=Zl W3.out;have hz:=W3.out.inside;have B3:=Hh (Xq B2.out b3);clear b3;simp only[Zi]))
  have hF:=Zl (Zb.set3 W3.out (.int .i64 2) (.int .i64 (v.line:Int)) (.int .i64 (v.col:Int)));refine bodyPost_ret (v:=.agg #[.int .i64 2,.int .i64 (v.line:Int),.int .i64 (v.col:Int)]) (by simp[results,Tryz.results135,go_sem,hF]) rfl ⟨rfl,?_⟩;exact Below.set3 (((Below.refl _ _).alloc (Nat.le_refl _) _).trans (B3.out.mono (by simp))) (Nat.le_refl _) _ _ _
 ·have q0:(v.k == 0)=false:=by rw[beq_eq_false_iff_ne];exact hk
  rw[if_neg hk];clear hk;go_enter Tryz.func135,Tryz.ntmps135;go_wp2_with(first
 |(go_at_call 133;refine(Zie _ _ v d r o n c H1.out).mono ?_;rintro e w2 ⟨rfl,b2⟩;have H2:=Hh (H1.out.below b2);have W2:=Hh (F0.below b2 (by simp));have B2:=Hh b2;clear b2;simp only[Vk])
 |(go_at_call 173;refine(cHere _ _ v d r o n c _ H2.out).mono ?_;rintro e w3 ⟨rfl,b3⟩;have W3:=Hh (W2.out.below b3 W2.out.inside);obtain⟨k0,k1,k2,f0,f1,f2⟩:=Zl W3.out;have hz:=W3.out.inside;have B3:=Hh (Xq B2.out b3);clear b3;simp only[Zi]))
  have hF:=Zl (Zb.set3 W3.out (.int .i64 7) (.int .i64 (v.line:Int)) (.int .i64 (v.col:Int)));refine bodyPost_ret (v:=.agg #[.int .i64 7,.int .i64 (v.line:Int),.int .i64 (v.col:Int)]) (by simp[results,Tryz.results135,go_sem,hF]) rfl ⟨rfl,?_⟩;exact Below.set3 (((Below.refl _ _).alloc (Nat.le_refl _) _).trans (B3.out.mono (by simp))) (Nat.le_refl _) _ _ _
end Go.Proofs.YtljdgdphldckhaaGreat
