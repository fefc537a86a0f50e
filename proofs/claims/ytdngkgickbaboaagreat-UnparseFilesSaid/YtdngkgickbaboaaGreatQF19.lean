/- Parts of the proof. No conditions but those that each names. -/
import Derived.Great.Walk
import Derived.Deep.QuietTactic
import Derived.BigQuiet
import Derived.RegionTactic
import Derived.IntWalk
import Derived.Test.YtdngkgickbaboaaGreatQF18
set_option maxRecDepth 20000
set_option maxHeartbeats 12800000
set_option linter.unusedVariables false
set_option linter.unusedSimpArgs false
namespace Go.Proofs.YtdngkgickbaboaaGreat
open Go.Value renaming int→I,slice→Λ,pointer→Ω,string→Ψ,oneCell'→Γ
open Go.IntKind renaming i64→J
open _root_.Go.Proofs.Tryz renaming prog→Φ
open Nat renaming le_refl→Θ
open Nat renaming le_trans→Ξ
open And renaming intro→ζ
open Go.Ending renaming returned→η
open Go.ChangeShapes Go.WideShapes Go.ChangeAt Go.RowKit
def fileO(nk:Int)(s:ByteArray):Fi×St:=Vv nk (Wy s) (Zda s) (Jz s)
def Zms(nk:Int)(s:ByteArray):Fi×(Int×Nat×Nat):=(if(Xp (Wy s) (fileO nk s).2).good=true then(fileO nk s).1 else⟨[],[]⟩,Xd (Xp (Wy s) (fileO nk s).2))
def exprO(nk:Int)(s:ByteArray):Ex×St:=Yh nk (Wy s) (Zda s) (Jz s)
def exprP(nk:Int)(s:ByteArray):Ex×(Int×Nat×Nat):=(if(Xp (Wy s) (exprO nk s).2).good=true then(exprO nk s).1 else zEx,Xd (Xp (Wy s) (exprO nk s).2))
theorem Znd(s:ByteArray):Zw (Wy s) (Jz s)≤(Wy s).length:=by
 unfold Jz;split
 ·exact Nat.sub_le _ _
 ·exact Nat.zero_le _
theorem text_len(s:ByteArray)(h:s.size≤65536):(Wy s).length≤65537:=by
 unfold Wy;rcases Zmh s h with⟨E,l,c,hv,_⟩ | ⟨L,hv,_,hl⟩
 ·rw[hv];exact Nat.zero_le _
 ·rw[hv];show L.length≤65537;omega
def Zqx(w:World)(ds:Ds)(F:Int×Nat×Nat)(e:Ending)(w':World):Prop:=
 ∃ vs:List Value,e=η (.tuple #[.agg vs.toArray,Zq F])∧Zt (fun k=>w.heap.size≤k) w' ds vs∧Below w.heap.size w w'
theorem Zjv{B:Nat}{w x y:World}{q c r K:Nat}{L:List TokV}{st:St}(h:Below B w x)(m:Wg x y q c r K L st)(hq:B≤q)(hc:B≤c)(hx:B≤x.heap.size):Below B w y:=
 h.trans (m.keeps.below hx fun k hk=>by omega)
theorem Zcy{B:Nat}{w x y:World}{g:Nat}{t:TypeId}{vs:List Value}(h:Below B w x)(p:Put x y g t vs)(hg:B≤g)(hx:B≤x.heap.size):Below B w y:=
 h.trans (p.keeps.below hx fun k hk=>by omega)
theorem bthen2{B:Nat}{w x y:World}(h:Below B w x)(k:Below x.heap.size x y)(hB:B≤x.heap.size):Below B w y:=h.trans (k.mono hB)
theorem xExpr(s:ByteArray)(w:World)(hs:s.size≤65536):Calls Φ 16 #[Ψ s] w (Zqx w (exprP 5 s).1.ds (exprP 5 s).2):=by
 have hr:=Znd s;have hl:=text_len s hs;have hbe:∀ w,Calls Φ 41 #[Ψ s] w (Zpj w s):=fun w=>xbegin s w hs
 have hsub:∀ w q c r K,PAt w q c r K (Wy s) (Jz s)→Calls Φ 43 #[Ω (some ⟨q,0,none⟩)] w (Zac w q c r K (Wy s) (exprO 5 s).2 (exprO 5 s).1.ds):=fun w q c r K h=>by
  have hN:Zda s=8*(Wy s).length+20:=rfl;exact xexprs w q c r K _ _ (Zda s) h (by omega) (by omega)
 unfold Zpj at hbe;unfold exprP;generalize exprO 5 s=o at *;generalize Wy s=L at *;generalize Jz s=st at *;clear hr hl hs;have n1:=Zj w (.cells #[I J 0,I J 0,I J 0,I J 0,I J 0,I J 0,Λ none 0 0,I J 0,I J 0,I J 0,I J 0,Λ none 0 0] 54);have n2:=Zj (w.alloc (.cells #[I J 0,I J 0,I J 0,I J 0,I J 0,I J 0,Λ none 0 0,I J 0,I J 0,I J 0,I J 0,Λ none 0 0] 54)) (.cells #[I J 0,I J 0,I J 0] 29);have R0:=Hh ((show Ze _ w.heap.size 54 ([I J 0,I J 0,I J 0,I J 0,I J 0,I J 0,Λ none 0 0,I J 0,I J 0,I J 0,I J 0,Λ none 0 0]).toArray from Ze.made w 54 #[I J 0,I J 0,I J 0,I J 0,I J 0,I J 0,Λ none 0 0,I J 0,I J 0,I J 0,I J 0,Λ none 0 0]).alloc (.cells #[I J 0,I J 0,I J 0] 29));have F0:=Hh (show Ze ((w.alloc (.cells #[I J 0,I J 0,I J 0,I J 0,I J 0,I J 0,Λ none 0 0,I J 0,I J 0,I J 0,I J 0,Λ none 0 0] 54)).alloc (.cells #[I J 0,I J 0,I J 0] 29)) (w.heap.size+1) 29 ([I J 0,I J 0,I J 0]:List Value).toArray from by have e:=Ze.made (w.alloc (.cells #[I J 0,I J 0,I J 0,I J 0,I J 0,I J 0,Λ none 0 0,I J 0,I J 0,I J 0,I J 0,Λ none 0 0] 54)) 29 #[I J 0,I J 0,I J 0];rw[World.size_alloc]at e;exact e);have B0:=Hh (Jm n1 n2);have hz0:((w.alloc (.cells #[I J 0,I J 0,I J 0,I J 0,I J 0,I J 0,Λ none 0 0,I J 0,I J 0,I J 0,I J 0,Λ none 0 0] 54)).alloc (.cells #[I J 0,I J 0,I J 0] 29)).heap.size=w.heap.size+2:=by simp
 cases hg:(Xp L o.2).good
 ·rw[if_neg (by decide)]
  go_enter Tryz.func16,Tryz.ntmps16;go_wp2_with(first
 |(go_at_call 41;refine(hbe _).mono ?_;rintro e w1 ⟨q,c,r,K,rfl,hp,hq,hc,b1⟩
   rw[hz0]at hq hc;have hz1:w.heap.size+2≤w1.heap.size:=by have:=b1.size;rw[hz0]at this;exact this
   have R1:=Hh (R0.out.below b1 R0.out.inside);have F1:=Hh (F0.out.below b1 F0.out.inside);have B1:=Hh (bthen2 B0.out b1 (by rw[hz0];omega));have hq2:=hp.whole.inside;have hc2:=hp.cin;have P1:=Hh hp;clear hp b1)
 |(go_at_call 43;refine(hsub _ q c r K P1.out).mono ?_;rintro e w2 ⟨vs,rfl,d2,m2⟩
   obtain⟨a0,a1,a2,a3,a4,a5,a6,a7,a8,a9,a10,a11,rfl⟩:=Zdf vs d2.len12;have R2:=Hh (m2.keeps.whole R1.out (by omega));have F2:=Hh (m2.keeps.whole F1.out (by omega));have B2:=Hh (Zjv B1.out m2 (by omega) (by omega) (by omega));have P2:=Hh m2.at_;have hz2:w1.heap.size≤w2.heap.size:=m2.keeps.size;have D2:=Hh d2;clear m2 d2)
 |(go_at_call 42;refine(xfinE _ q c r K L o.2 a0 a1 a2 a3 a4 a5 a6 a7 a8 a9 a10 a11 D2.out.one P2.out).mono ?_;rintro e w3 ⟨e3,m3⟩
   rw[hg]at e3;rw[if_neg (by decide)]at e3;obtain rfl:=e3;have R3:=Hh (m3.keeps.whole R2.out (by omega));have F3:=Hh (m3.keeps.whole F2.out (by omega));have B3:=Hh (Zjv B2.out m3 (by omega) (by omega) (by omega));have hz3:w2.heap.size≤w3.heap.size:=m3.keeps.size;have D3:=Hh (D2.out.move m3 hq2 hc2);simp only[Zq];clear m3)
 |((with_reducible refine Zi 2 11 ?_);refine Za 54 _ _ 54 w.heap.size _ [I J 0,I J 0,I J 0,I J 0,I J 0,I J 0,Λ none 0 0,I J 0,I J 0,I J 0,I J 0,Λ none 0 0] R3.out rfl Ym (by simp[Γ]) rfl rfl rfl rfl rfl ?_
   intro w4 p4;have R4:=Hh p4.whole;have F4:=Hh (p4.keeps.whole F3.out (by omega));have B4:=Hh (Zcy B3.out p4 (Θ _) (by omega));have D4:=Hh (D3.out.put p4 (by omega));have hz4:w3.heap.size≤w4.heap.size:=p4.keeps.size;clear p4)
 |((with_reducible refine Zi 3 12 ?_);refine Za 29 _ _ 29 (w.heap.size+1) _ [I J (Xd (Xp L o.2)).1,I J ((Xd (Xp L o.2)).2.1:Int),I J ((Xd (Xp L o.2)).2.2:Int)] F4.out rfl Vh (by simp[Γ]) rfl rfl rfl rfl rfl ?_
   intro w5 p5;have F5:=Hh p5.whole;have R5:=Hh (p5.keeps.whole R4.out (by omega));have B5:=Hh (Zcy B4.out p5 (by omega) (by omega));have D5:=Hh (D4.out.put p5 (by omega));clear p5))
  exact Yt 2 54 3 29 54 29 _ _ _ _ rfl R5.out F5.out Xk Ym Zdg Vh rfl rfl rfl ⟨_,rfl,(zEx_deep _ _),B5.out⟩
 ·rw[if_pos rfl]
  go_enter Tryz.func16,Tryz.ntmps16;go_wp2_with(first
 |(go_at_call 41;refine(hbe _).mono ?_;rintro e w1 ⟨q,c,r,K,rfl,hp,hq,hc,b1⟩
   rw[hz0]at hq hc;have hz1:w.heap.size+2≤w1.heap.size:=by have:=b1.size;rw[hz0]at this;exact this
   have R1:=Hh (R0.out.below b1 R0.out.inside);have F1:=Hh (F0.out.below b1 F0.out.inside);have B1:=Hh (bthen2 B0.out b1 (by rw[hz0];omega));have hq2:=hp.whole.inside;have hc2:=hp.cin;have P1:=Hh hp;clear hp b1)
 |(go_at_call 43;refine(hsub _ q c r K P1.out).mono ?_;rintro e w2 ⟨vs,rfl,d2,m2⟩
   obtain⟨a0,a1,a2,a3,a4,a5,a6,a7,a8,a9,a10,a11,rfl⟩:=Zdf vs d2.len12;have R2:=Hh (m2.keeps.whole R1.out (by omega));have F2:=Hh (m2.keeps.whole F1.out (by omega));have B2:=Hh (Zjv B1.out m2 (by omega) (by omega) (by omega));have P2:=Hh m2.at_;have hz2:w1.heap.size≤w2.heap.size:=m2.keeps.size;have D2:=Hh d2;clear m2 d2)
 |(go_at_call 42;refine(xfinE _ q c r K L o.2 a0 a1 a2 a3 a4 a5 a6 a7 a8 a9 a10 a11 D2.out.one P2.out).mono ?_;rintro e w3 ⟨e3,m3⟩
   rw[hg]at e3;rw[if_pos rfl]at e3;obtain rfl:=e3;have R3:=Hh (m3.keeps.whole R2.out (by omega));have F3:=Hh (m3.keeps.whole F2.out (by omega));have B3:=Hh (Zjv B2.out m3 (by omega) (by omega) (by omega));have hz3:w2.heap.size≤w3.heap.size:=m3.keeps.size;have D3:=Hh (D2.out.move m3 hq2 hc2);simp only[Zq];clear m3)
 |((with_reducible refine Zi 2 11 ?_);refine Za 54 _ _ 54 w.heap.size _ [a0,a1,a2,a3,a4,a5,a6,a7,a8,a9,a10,a11] R3.out rfl Ym D2.out.one rfl rfl rfl rfl rfl ?_
   intro w4 p4;have R4:=Hh p4.whole;have F4:=Hh (p4.keeps.whole F3.out (by omega));have B4:=Hh (Zcy B3.out p4 (Θ _) (by omega));have D4:=Hh (D3.out.put p4 (by omega));have hz4:w3.heap.size≤w4.heap.size:=p4.keeps.size;clear p4)
 |((with_reducible refine Zi 3 12 ?_);refine Za 29 _ _ 29 (w.heap.size+1) _ [I J (Xd (Xp L o.2)).1,I J ((Xd (Xp L o.2)).2.1:Int),I J ((Xd (Xp L o.2)).2.2:Int)] F4.out rfl Vh (by simp[Γ]) rfl rfl rfl rfl rfl ?_
   intro w5 p5;have F5:=Hh p5.whole;have R5:=Hh (p5.keeps.whole R4.out (by omega));have B5:=Hh (Zcy B4.out p5 (by omega) (by omega));have D5:=Hh (D4.out.put p5 (by omega));clear p5))
  exact Yt 2 54 3 29 54 29 _ _ _ _ rfl R5.out F5.out Xk Ym Zdg Vh rfl rfl rfl ⟨_,rfl,(D5.out.lower (by omega)),B5.out⟩
open Go
theorem good_row{v:TokV}(h:GoodT v):(v.k=2→0≤v.n∧v.n≤99)∧(v.k=3→Zjz v.t):=by
 obtain⟨l,g1,g2,g3,g4,g5,g6,g7⟩:=h;refine⟨fun _=>by rw[g5];exact numOf_bd l,fun hk=>?_⟩;have hk3:(Yj l).1=3:=by rw[←g2];exact hk
 cases l with
 |nil=>simp[Yj]at g1
 |cons c r=>
  have key:(Yj (c::r)).1=3→c=34∧tw (Xn 34) r<r.length∧Zdn (strOfNums (r.take (tw (Xn 34) r)))=true∧Yj (c::r)=(3,1,tw (Xn 34) r+1,tw (Xn 34) r+2):=by
   refine Zaq c r (fun x=>x.1=3→c=34∧tw (Xn 34) r<r.length∧Zdn (strOfNums (r.take (tw (Xn 34) r)))=true∧x=(3,1,tw (Xn 34) r+1,tw (Xn 34) r+2)) ?_ ?_ ?_ ?_ ?_ ?_ ?_ ?_
   ·intro _ hh;simp at hh
   ·intro _ _ _ hh;simp at hh
   ·intro _ _ hh;simp at hh
   ·intro _ hh;simp at hh
   ·intro h1 h2 h3 _;exact⟨h1,h2,h3,rfl⟩
   ·intro _ _ hh;simp at hh
   ·intro _ _ _ _ _ hh;simp at hh
   ·intro _ _ _ _ _ hh;simp at hh
  obtain⟨k1,k2,k3,k4⟩:=key hk3;rw[k4]at g3 g4;have e1:((c::r).take (tw (Xn 34) r+1)).drop 1=r.take (tw (Xn 34) r):=by rw[List.take_succ_cons,List.drop_succ_cons,List.drop_zero]
  dsimp only at g3 g4;rw[e1]at g4;unfold txt at g3;rw[if_pos hk,List.take_succ_cons,k1]at g3;have g3':=(List.cons.inj g3).2
  have e2:bL v.t=r.take (tw (Xn 34) r):=by
   have hlen:=congrArg List.length g3';rw[List.length_append,List.length_take,List.length_cons,List.length_nil]at hlen;have hz:(bL v.t).length=tw (Xn 34) r:=by omega
   have:=congrArg (List.take (tw (Xn 34) r)) g3';rw[List.take_append_of_le_length (by omega),List.take_of_length_le (by omega),List.take_take,Nat.min_eq_left (by omega)]at this;exact this
  refine⟨by rw[g4];exact k3,fun x hx=>?_⟩;have hb:=Zke v.t x hx;rw[e2]at hx;have:=Zqa (Xn 34) r x hx;rw[Zcq]at this;exact⟨hb.1,hb.2,this⟩
theorem Sh.row{L:List TokV}(h:Sh L):∀ a,((Zx L a).k=2→0≤(Zx L a).n∧(Zx L a).n≤99)∧((Zx L a).k=3→Zjz (Zx L a).t):=by
 have z:∀ v:TokV,v.k=0→(v.k=2→0≤v.n∧v.n≤99)∧(v.k=3→Zjz v.t):=fun v hv=>⟨fun h=>by omega,fun h=>by omega⟩
 induction h with
 |fin v hk ht hn=>
  intro a;cases a with
  |zero=>rw[Zgw];exact z v hk
  |succ a=>exact z _ (by simp[Zx,zTok])
 |tok v L hg hL ih=>
  intro a;cases a with
  |zero=>rw[Zgw];exact good_row hg
  |succ a=>rw[Zlw];exact ih a
theorem Sh.ok{L:List TokV}(h:Sh L):Uw L:=⟨fun a=>(h.row a).1,fun a=>(h.row a).2⟩
theorem text_ok(s:ByteArray)(hs:s.size≤65536):(∃ F,Jz s=.bad F∧Wy s=[])∨(Jz s=.ok 0 0∧Uw (Wy s)):=by
 obtain⟨L,E,p,hc⟩:∃ L E p,Zaa s 0 []=(L,E,p):=⟨_,_,_,rfl⟩
 have hf:=Zjf s s.size 0 [] L E p (by omega) (by omega) (Bd.zero s) hc;unfold Jz Wy;rw[Zhb s hs hc];by_cases hE:E=0
 ·obtain⟨L2,h2,h3⟩:=hf.1 hE
  have e:L=L2:=h2;subst e;right;rw[if_pos hE];exact⟨rfl,h3.sh.ok⟩
 ·left
  rw[if_neg hE];exact⟨_,if_neg hE,rfl⟩
theorem over_good{L:List TokV}{st:St}(h:(Xp L st).good=true):st.good=true:=by
 cases st with
 |ok a d=>rfl
 |bad F=>exact h
theorem file_off(nk:Int)(L:List TokV)(n:Nat)(F:Int×Nat×Nat):Vv nk L (n+1) (.bad F)=(⟨[],[]⟩,.bad F):=by
 rw[Vv];rfl
theorem parse_val(nk:Int)(s:ByteArray)(hs:s.size≤65536):VFi (Zms nk s).1:=by
 unfold Zms;dsimp only;by_cases hg:(Xp (Wy s) (fileO nk s).2).good=true
 ·rw[if_pos hg]
  have h2:=over_good hg;unfold fileO at h2 ⊢;rcases text_ok s hs with⟨F,e1,e2⟩ | ⟨e1,hr⟩
  ·rw[e1,show Zda s=(Zda s - 1)+1 from by unfold Zda;omega,file_off]at h2
   cases h2
  ·exact(file_val hr (Zda s) (Jz s) (by have:=Znd s;unfold Zda;omega) h2 ⟨0,e1⟩).2
 ·rw[if_neg hg]
  exact⟨(fun c hc=>by cases hc),fun p hp=>by cases hp⟩
def wt(v:TokV):Nat:=v.t.size+9
def wtL(l:List TokV):Nat:=(l.map wt).sum
def WS(L:List TokV):St→Nat
 |.ok a _=>wtL (L.drop a)
 |.bad _=>0
def Zbd(L:List TokV)(a b:St)(c:Nat):Prop:=b.good=true→a.good=true∧c+WS L b≤WS L a
theorem Zga(t:ByteArray):Vc [t]=t.size+1:=by simp[Vc]
theorem Wj(t:ByteArray)(k:List ByteArray):Vc (t::k)=t.size+1+Vc k:=by simp[Vc]
theorem Wt:Vc []=0:=rfl
theorem cur_k{L:List TokV}{a:Nat}(h:(Zx L a).k≠0):wtL (L.drop a)=wt (Zx L a)+wtL (L.drop (a+1))∧onA L a=a+1:=by
 have hl:a<L.length:=by
  apply Classical.byContradiction;intro hn;apply h;have e:Zx L a=zTok:=by unfold Zx;rw[List.getElem?_eq_none (by omega)];rfl
  rw[e];rfl
 refine⟨?_,by unfold onA;rw[if_neg h]⟩;have e:Zx L a=L[a]:=by unfold Zx;rw[List.getElem?_eq_getElem hl];rfl
 unfold wtL;rw[List.drop_eq_getElem_cons hl,List.map_cons,List.sum_cons,e]
theorem ba_same{s t:ByteArray}(h:s.toList=t.toList):s=t:=by
 rw[ByteArray.toList_eq,ByteArray.toList_eq]at h;exact ByteArray.ext (Array.toList_inj.1 h)
theorem Zqn{v:TokV}{t:ByteArray}(h:isT v t=true):v.k≠0∧v.t=t:=by
 unfold isT at h;simp only[Bool.and_eq_true,Bool.or_eq_true,beq_iff_eq]at h;exact⟨by omega,ba_same h.2⟩
theorem wd_succ(t:ByteArray)(r:List ByteArray)(i:Nat)(hi:i≠0):wd (t::r) ((i+1:Nat):Int)=wd r (i:Int):=by
 unfold wd;obtain⟨j,rfl⟩:∃ j,i=j+1:=⟨i - 1,by omega⟩
 have e1:(((j+1+1:Nat):Int)).toNat - 1=j+1:=by omega
 have e2:(((j+1:Nat):Int)).toNat - 1=j:=by omega
 rw[e1,e2];rfl
theorem idx_tok{v:TokV}:∀{ws:List ByteArray},Zar v ws≠0→v.k≠0∧v.t=wd ws (Zar v ws)
 |[],h=>absurd rfl h
 |t::r,h=>by
  unfold Zar at h ⊢;by_cases h1:isT v t=true
  ·rw[if_pos h1];exact⟨(Zqn h1).1,(Zqn h1).2⟩
  ·rw[if_neg h1]at h ⊢
   by_cases h2:Zar v r=0
   ·rw[if_pos h2]at h;exact absurd rfl h
   ·rw[if_neg h2]
    obtain⟨h3,h4⟩:=idx_tok h2;exact⟨h3,by rw[wd_succ t r _ h2];exact h4⟩
theorem putS_two:∀{n:Int},0≤n→n≤99→(Xf n).size≤2:=by
 have h:∀ i:Fin 100,(Xf ((i.val:Nat):Int)).size≤2:=by decide +kernel
 intro n h1 h2;have:=h ⟨n.toNat,by omega⟩;rwa [show((n.toNat:Nat):Int)=n from by omega]at this
theorem putS_tri:∀{n:Int},0≤n→n≤99→(Xf (-n)).size≤3:=by
 have h:∀ i:Fin 100,(Xf (-((i.val:Nat):Int))).size≤3:=by decide +kernel
 intro n h1 h2;have:=h ⟨n.toNat,by omega⟩;rwa [show((n.toNat:Nat):Int)=n from by omega]at this
section
variable {L:List TokV} {nk:Int}
theorem Zmt(st:St):Zbd L st st 0:=fun h=>⟨h,by omega⟩
theorem p_trans{a b c:St}{x y:Nat}(h:Zbd L a b x)(k:Zbd L b c y):Zbd L a c (x+y):=fun g=>by
 obtain⟨g1,p1⟩:=k g;obtain⟨g2,p2⟩:=h g1;exact⟨g2,by omega⟩
theorem p_less{a b:St}{x y:Nat}(h:Zbd L a b x)(hy:y≤x):Zbd L a b y:=fun g=>by
 obtain⟨g1,p1⟩:=h g;exact⟨g1,by omega⟩
theorem p_wrong(a b:St)(x:Nat):Zbd L a (Zjb L b) x:=by
 intro h;cases b<;>cases h
theorem Zjp{ws:List ByteArray}{st:St}(h0:Zh L ws st≠0):Zbd L st (Yd L ws st) ((wd ws (Zh L ws st)).size+9):=by
 intro hg;cases st with
 |bad F=>cases hg
 |ok a d=>
  have h0':Zar (Zx L a) ws≠0:=h0;obtain⟨hk,ht⟩:=idx_tok h0';obtain⟨h1,h2⟩:=cur_k hk;refine⟨rfl,?_⟩;have e:Yd L ws (.ok a d)=.ok (onA L a) d:=if_neg h0';rw[e,h2];show(wd ws (Zar (Zx L a) ws:Nat)).size+9+wtL (L.drop (a+1))≤wtL (L.drop a);rw[h1,←ht];unfold wt;omega
theorem Zew(ws:List ByteArray)(st:St):Zbd L st (Zp L ws st) ((wd ws (Zh L ws st)).size+9):=by
 unfold Zp;by_cases h0:Zh L ws st=0
 ·rw[if_pos h0];exact p_wrong _ _ _
 ·rw[if_neg h0];exact Zjp h0
theorem p_took{t:ByteArray}{st:St}(h0:isS L t st=true):Zbd L st (Wf L t st) (t.size+9):=by
 intro hg;cases st with
 |bad F=>cases hg
 |ok a d=>
  have h0':isT (Zx L a) t=true:=h0;obtain⟨hk,ht⟩:=Zqn h0';obtain⟨h1,h2⟩:=cur_k hk;refine⟨rfl,?_⟩;show t.size+9+wtL (L.drop (Zck L a t))≤wtL (L.drop a);unfold Zck;rw[if_pos h0',h2,h1,←ht];unfold wt;omega
theorem Zih(t:ByteArray)(st:St):Zbd L st (Yb L t st) (t.size+9):=by
 unfold Yb;by_cases h0:isS L t st=true
 ·rw[if_pos h0];exact p_took h0
 ·rw[if_neg h0];exact p_wrong _ _ _
theorem p_note{st:St}{F:Int×Nat×Nat}{a d:Nat}{c:Nat}(h:F.1=0→Zbd L st (.ok a d) c):Zbd L st (Jr F (.ok a d)) c:=by
 have e:Jr F (.ok a d)=if F.1=0 then .ok a d else .bad F:=rfl
 rw[e];by_cases h0:F.1=0
 ·rw[if_pos h0];exact h h0
 ·rw[if_neg h0];intro g;cases g
theorem Zqm{a k:Nat}(hk:(k:Int)≠0)(h:(Wl L a k).1=0):(Zx L a).k=k:=by
 unfold Wl at h;by_cases h1:(Zx L a).k=k
 ·exact h1
 ·rw[if_neg h1]at h;exact absurd h (Zid _)
theorem p_int(hR:Uw L)(st:St):Zbd L st (Zba L st) ((Xf (Zfe L st)).size+7):=by
 cases st with
 |bad F=>intro g;cases g
 |ok a d=>
  refine p_note fun h0=>?_
  have hk:(Zx L a).k=2:=Zqm (k:=2) (by decide) h0;obtain⟨h1,h2⟩:=cur_k (L:=L) (a:=a) (by rw[hk];decide);have hn:=hR.int a hk;have ev:Zfe L (.ok a d)=(Zx L a).n:=by show Zkh L a=_;unfold Zkh;rw[if_pos hk]
  have hs:=putS_two hn.1 hn.2;intro _;refine⟨rfl,?_⟩;have ea:Vz L a 2=a+1:=by unfold Vz;rw[if_pos hk,h2]
  rw[ev,ea];show _+wtL (L.drop (a+1))≤wtL (L.drop a);rw[h1];unfold wt;omega
theorem p_name(st:St):Zbd L st (Vf L st) ((Zdc L st).size+9):=by
 cases st with
 |bad F=>intro g;cases g
 |ok a d=>
  refine p_note fun h0=>?_
  have hk:(Zx L a).k=3:=Zqm (k:=3) (by decide) h0;obtain⟨h1,h2⟩:=cur_k (L:=L) (a:=a) (by rw[hk];decide);have ev:Zdc L (.ok a d)=(Zx L a).t:=by show Zmd L a=_;unfold Zmd;rw[if_pos hk]
  intro _;refine⟨rfl,?_⟩;have ea:Vz L a 3=a+1:=by unfold Vz;rw[if_pos hk,h2]
  rw[ev,ea];show _+wtL (L.drop (a+1))≤wtL (L.drop a);rw[h1];unfold wt;omega
theorem p_sign(hR:Uw L)(st:St):Zbd L st (Zae L st) ((Xf (Zbe L st)).size+6):=by
 cases st with
 |bad F=>intro g;cases g
 |ok a d=>
  refine p_note fun h0=>?_
  by_cases hm:isT (Zx L a) Znt=true
  ·obtain⟨hk,ht⟩:=Zqn hm
   obtain⟨h1,h2⟩:=cur_k hk;have h0':(Wl L (onA L a) 2).1=0:=by unfold Zbp at h0;rw[if_pos hm]at h0;exact h0
   rw[h2]at h0';have hk2:(Zx L (a+1)).k=2:=Zqm (k:=2) (by decide) h0';obtain⟨h3,h4⟩:=cur_k (L:=L) (a:=a+1) (by rw[hk2];decide);have hn:=hR.int (a+1) hk2;have ev:Zbe L (.ok a d) = -(Zx L (a+1)).n:=by show Zkc L a=_;unfold Zkc;rw[if_pos hm,h2,if_pos hk2]
   have hs:=putS_tri hn.1 hn.2;intro _;refine⟨rfl,?_⟩;have ea:Zem L a=a+1+1:=by unfold Zem;rw[if_pos hm,h2];first | rw[if_pos hk2,h4] | (unfold Vz;rw[if_pos hk2,h4])
   rw[ev,ea];show _+wtL (L.drop (a+1+1))≤wtL (L.drop a);rw[h1,h3];unfold wt;omega
  ·have h0':(Wl L a 2).1=0:=by unfold Zbp at h0;rw[if_neg hm]at h0;exact h0
   have hk:(Zx L a).k=2:=Zqm (k:=2) (by decide) h0';obtain⟨h1,h2⟩:=cur_k (L:=L) (a:=a) (by rw[hk];decide);have hn:=hR.int a hk;have ev:Zbe L (.ok a d)=(Zx L a).n:=by show Zkc L a=_;unfold Zkc;rw[if_neg hm];unfold Zkh;rw[if_pos hk]
   have hs:=putS_two hn.1 hn.2;intro _;refine⟨rfl,?_⟩;have ea:Zem L a=a+1:=by unfold Zem;rw[if_neg hm];unfold Vz;rw[if_pos hk,h2]
   rw[ev,ea];show _+wtL (L.drop (a+1))≤wtL (L.drop a);rw[h1];unfold wt;omega
theorem p_down(t:ByteArray)(st:St):Zbd L st (Vw L t st) (t.size+9):=by
 unfold Vw
 have h:Zbd L st (Ziu L t st) 0:=by
  cases st with
  |bad F=>intro g;cases g
  |ok a d=>
   show Zbd L _ (if isT (Zx L a) t=true then Jr (Zab L a d) (St.ok a (Zdd d))else St.ok a d) 0;split
   ·exact p_note fun _ g=>⟨rfl,by show 0+WS L (.ok a _)≤WS L (.ok a d);exact Nat.le_of_eq (Nat.zero_add _)⟩
   ·exact Zmt _
 have:=p_trans h (Zih t (Ziu L t st));rwa [Nat.zero_add]at this
theorem p_rise(t:ByteArray)(st:St):Zbd L st (Zhe L t st) (t.size+9):=by
 unfold Zhe;intro g
 have g1:(Yb L t st).good=true:=by
  generalize Yb L t st=q at *;cases q with
  |ok a d=>rfl
  |bad F=>cases g
 obtain⟨g2,p⟩:=Zih t st g1;refine⟨g2,?_⟩
 have e:WS L (upS (Yb L t st))=WS L (Yb L t st):=by
  generalize Yb L t st=q;cases q<;>rfl
 rw[e];exact p
theorem p_filter(hR:Uw L)(st:St)(h0:Zh L Yg st≠0):Zbd L st (Vj nk L (Zh L Yg st) (Yd L Yg st)).2 (Vc (kFl (Vj nk L (Zh L Yg st) (Yd L Yg st)).1)):=by
 have hle:Zh L Yg st≤4:=by
  cases st with
  |ok a d=>exact Zds (Zx L a) Yg
  |bad F=>exact absurd rfl h0
 have p0:=Zjp h0;intro hg;unfold Vj at hg ⊢;generalize Zh L Yg st=k at *;by_cases h12:k=1∨k=2
 ·rw[if_pos h12]at hg ⊢
  dsimp only at hg ⊢;obtain⟨g1,q1⟩:=p_sign hR _ hg;obtain⟨g2,q2⟩:=Zew wOp _ g1;obtain⟨g3,q3⟩:=p0 g2;refine⟨g3,?_⟩;unfold kFl;dsimp only;rw[if_pos (by omega)];simp only[Wj,Wt];omega
 ·rw[if_neg h12]at hg ⊢
  by_cases h3:k=3
  ·rw[if_pos h3]at hg ⊢
   dsimp only at hg ⊢;obtain⟨g2,q2⟩:=p_name _ hg;obtain⟨g3,q3⟩:=p0 g2;refine⟨g3,?_⟩;subst h3;unfold kFl;dsimp only;rw[if_neg (by omega),if_pos rfl];simp only[Wj,Wt,Zhr];have e3:((3:Nat):Int)=3:=rfl;rw[e3]at q3;omega
  ·rw[if_neg h3]at hg ⊢
   dsimp only at hg ⊢;obtain⟨g2,q2⟩:=Zew Vk _ hg;obtain⟨g3,q3⟩:=p0 g2;refine⟨g3,?_⟩
   have hk4:k=4:=by
    have:k≠0:=h0;omega
   subst hk4
   have hm:Zh L Vk (Yd L Yg st)≠0:=by
    intro h;unfold Zp at hg;rw[if_pos h]at hg;generalize Yd L Yg st=q at *;cases q<;>cases hg
   rw[if_neg hm];unfold kFl;dsimp only;rw[if_neg (by omega),if_neg (by omega)];have e:3+((Zh L Vk (Yd L Yg st):Nat):Int) - 3=(Zh L Vk (Yd L Yg st):Nat):=by omega
   rw[e];simp only[Wj,Wt];have e3:((4:Nat):Int)=4:=rfl;rw[e3]at q3;omega
theorem p_filters(hR:Uw L):∀(n:Nat)(st:St),Zbd L st (Yf nk L n st).2 (Vc (Zpx (Yf nk L n st).1))
 |0,st=>Zmt st
 |n+1,st=>by
  rw[Yf];by_cases h0:Zh L Yg st=0
  ·rw[if_pos h0];exact Zmt st
  ·rw[if_neg h0]
   dsimp only;have h:=p_trans (p_filter (nk:=nk) hR st h0) (p_filters hR n (Vj nk L (Zh L Yg st) (Yd L Yg st)).2);refine p_less h ?_;show Vc (kFl _++Zpx _)≤_;rw[Xu];exact Θ _
theorem p_where(hR:Uw L)(st:St):Zbd L st (Zcj L st) (Vc ([wd Zg (Jo L st).1,wd Zz (Jo L st).2.1]++(if(Jo L st).2.1=3 then [Xf (Jo L st).2.2]else []))):=by
 intro h;unfold Zcj at h ⊢;unfold Jo;dsimp only;by_cases h3:Zh L Zz (Zp L Zg st)=3
 ·rw[if_pos h3]at h ⊢
  obtain⟨g1,q1⟩:=p_int hR _ h;obtain⟨g2,q2⟩:=Zew Zz _ g1;obtain⟨g3,q3⟩:=Zew Zg _ g2;refine⟨g3,?_⟩;rw[if_pos (by omega),if_pos h3];simp only[Xu,Wj,Wt];omega
 ·simp only[if_neg h3]at h ⊢
  obtain⟨g2,q2⟩:=Zew Zz _ h;obtain⟨g3,q3⟩:=Zew Zg _ g2;refine⟨g3,?_⟩;rw[if_neg (by omega)];simp only[Xu,Wj,Wt];omega
theorem s1_size(c:UInt8):(⟨#[c]⟩:ByteArray).size=1:=rfl
theorem p_sel(hR:Uw L)(n:Nat)(st:St):Zbd L st (Wa nk L n st).2 (Vc (Zkg (Wa nk L n st).1)):=by
 intro h;unfold Wa at h ⊢;by_cases h3:Zh L Yo st=3
 ·rw[if_pos h3]at h ⊢
  dsimp only at h ⊢;obtain⟨g1,q1⟩:=Zih Vb _ h;obtain⟨g2,q2⟩:=Zew Wo _ g1;obtain⟨g3,q3⟩:=p_filters (nk:=nk) hR n _ g2;obtain⟨g4,q4⟩:=p_where hR _ g3;obtain⟨g5,q5⟩:=Zew Yo st g4;refine⟨g5,?_⟩;unfold Zkg;dsimp only;rw[if_neg (by decide)];simp only[Xu,Wj,Wt,s1_size]at q4 ⊢;have e1:Vb.size=1:=rfl;rw[e1]at q1;omega
 ·rw[if_neg h3]at h ⊢
  dsimp only at h ⊢;obtain⟨g5,q5⟩:=Zew Yo st h;refine⟨g5,?_⟩;unfold Zkg;dsimp only
  have hle:Zh L Yo st≤3:=by
   cases st with
   |ok a d=>exact Zds (Zx L a) Yo
   |bad F=>exact Nat.zero_le _
  have hz:Zh L Yo st≠0:=by
   intro hz;unfold Zp at h;rw[if_pos hz]at h;cases st<;>cases h
  rw[if_pos (by omega),Zga];omega
theorem p_to(hR:Uw L)(st:St):Zbd L st (toS L st) (Vc (kTo (toK L st) (toL L st))):=by
 intro h;unfold toS at h ⊢;unfold toK toL kTo;by_cases h4:Zh L wTo st=4
 ·rw[if_pos h4]at h ⊢
  obtain⟨g1,q1⟩:=p_int hR _ h;obtain⟨g2,q2⟩:=Zew wTo _ g1;refine⟨g2,?_⟩;rw[if_pos (by omega),if_pos h4];simp only[Xu,Wj,Wt];omega
 ·simp only[if_neg h4]at h ⊢
  obtain⟨g2,q2⟩:=Zew wTo _ h;refine⟨g2,?_⟩;rw[if_neg (by omega)];simp only[Xu,Wj,Wt];omega
end
theorem kB_len(b:Bool)(X:List ByteArray):Vc (kB b X)≤Vc X+4:=by
 unfold kB;have e1:Ws.size=1:=rfl;have e2:Vb.size=1:=rfl;split
 ·simp only[Xu,Wj,Wt,e1,e2];omega
 ·omega
theorem sign_size{op:Int}(h1:1≤op)(h3:op≤3):(wd Znc op).size=1:=by
 have h:op=1∨op=2∨op=3:=by omega
 rcases h with rfl | rfl | rfl<;>rfl
theorem kEx_bin{op:Int}(h1:1≤op)(h3:op≤3)(l r:Ex):Vc (kEx (.bin op l r))≤Vc (kEx l)+Vc (kEx r)+10:=by
 have e:kEx (.bin op l r)=kB (Zax false op l) (kEx l)++([wd Znc op]++kB (Zax true op r) (kEx r)):=rfl;rw[e];simp only[Xu,Wj,Wt,sign_size h1 h3];have:=kB_len (Zax false op l) (kEx l);have:=kB_len (Zax true op r) (kEx r);omega
theorem sum_size{k:Nat}(h0:k≠0)(h:k≤2):(wd Zai (k:Int)).size=1:=by
 have h:k=1∨k=2:=by omega
 rcases h with rfl | rfl<;>rfl
section
variable {L:List TokV} {nk:Int}
theorem Zqt(ws:List ByteArray)(st:St):Zh L ws st≤ws.length:=by
 cases st with
 |ok a d=>exact Zds (Zx L a) ws
 |bad F=>exact Nat.zero_le _
theorem p_exprs(hR:Uw L):∀ n:Nat,
  (∀ st,4*Zw L st+3≤n→Zbd L st (Yh nk L n st).2 (Vc (kEx (Yh nk L n st).1))) ∧
  (∀ x,4*Zw L x.2≤n→(Jl nk L n x).2.good=true→x.2.good=true∧Vc (kEx (Jl nk L n x).1)+WS L (Jl nk L n x).2≤Vc (kEx x.1)+WS L x.2) ∧
  (∀ st,4*Zw L st+2≤n→Zbd L st (Vl nk L n st).2 (Vc (kEx (Vl nk L n st).1))) ∧
  (∀ x,4*Zw L x.2≤n→(Jj nk L n x).2.good=true→x.2.good=true∧Vc (kEx (Jj nk L n x).1)+WS L (Jj nk L n x).2≤Vc (kEx x.1)+WS L x.2) ∧
  (∀ st,4*Zw L st+1≤n→Zbd L st (Wp nk L n st).2 (Vc (kEx (Wp nk L n st).1)))
 |0=>⟨fun st h=>by omega,fun x _ h=>⟨h,Θ _⟩,fun st h=>by omega,fun x _ h=>⟨h,Θ _⟩,fun st h=>by omega⟩
 |n+1=>by
  obtain⟨i1,i2,i3,i4,i5⟩:=p_exprs hR n;refine⟨fun st hn h=>?_,fun x hn h=>?_,fun st hn h=>?_,fun x hn h=>?_,fun st hn h=>?_⟩
  ·rw[Yh]at h ⊢
   have r1:=Zfv L nk n st;obtain⟨g1,q1⟩:=i2 _ (by omega) h;obtain⟨g2,q2⟩:=i3 st (by omega) g1;exact⟨g2,by omega⟩
  ·rw[Jl]at h ⊢
   by_cases h0:Zh L Zai x.2=0
   ·rw[if_pos h0]at h ⊢;exact⟨h,Θ _⟩
   ·rw[if_neg h0]at h ⊢
    have r1:=Vq L h0;have r2:=Zfv L nk n (Yd L Zai x.2);obtain⟨g1,q1⟩:=i2 _ (by dsimp only;omega) h;dsimp only at g1 q1;obtain⟨g2,q2⟩:=i3 _ (by omega) g1;obtain⟨g3,q3⟩:=Zjp h0 g2;have hle:=Zqt (L:=L) Zai x.2;have hle:Zh L Zai x.2≤2:=hle;have hb:=kEx_bin (op:=(Zh L Zai x.2:Nat)) (by omega) (by omega) x.1 (Vl nk L n (Yd L Zai x.2)).1;rw[sum_size h0 hle]at q3;exact⟨g3,by omega⟩
  ·rw[Vl]at h ⊢
   have r1:=Zfw L nk n st;obtain⟨g1,q1⟩:=i4 _ (by omega) h;obtain⟨g2,q2⟩:=i5 st (by omega) g1;exact⟨g2,by omega⟩
  ·rw[Jj]at h ⊢
   by_cases h0:isS L Va x.2=true
   ·rw[if_pos h0]at h ⊢
    have r1:=Zfu L h0;have r2:=Zfw L nk n (Wf L Va x.2);obtain⟨g1,q1⟩:=i4 _ (by dsimp only;omega) h;dsimp only at g1 q1;obtain⟨g2,q2⟩:=i5 _ (by omega) g1;obtain⟨g3,q3⟩:=p_took h0 g2;have hb:=kEx_bin (op:=3) (by omega) (by omega) x.1 (Wp nk L n (Wf L Va x.2)).1;have e1:Va.size=1:=rfl;rw[e1]at q3;exact⟨g3,by omega⟩
   ·rw[if_neg h0]at h ⊢;exact⟨h,Θ _⟩
  ·rw[Wp]at h ⊢
   by_cases ho:isS L Ws st=true
   ·rw[if_pos ho]at h ⊢
    dsimp only at h ⊢;have r1:=Zjj L ho;obtain⟨g1,q1⟩:=p_rise Vb _ h;obtain⟨g2,q2⟩:=i1 _ (by omega) g1;obtain⟨g3,q3⟩:=p_down Ws _ g2;exact⟨g3,by omega⟩
   ·rw[if_neg ho]at h ⊢
    by_cases h0:Zh L Yy st=0
    ·rw[if_pos h0]at h ⊢
     dsimp only at h ⊢;obtain⟨g1,q1⟩:=p_sign hR _ h;refine⟨g1,?_⟩;have e:kEx (.leaf 1 (Zbe L st) zSe 0 0 0)=[Xf (Zbe L st)]:=rfl;rw[e,Zga];omega
    ·rw[if_neg h0]at h ⊢
     have hle:Zh L Yy st≤5:=Zqt (L:=L) Yy st;have p0:=Zjp h0;by_cases h12:Zh L Yy st=1∨Zh L Yy st=2
     ·rw[if_pos h12]at h ⊢
      dsimp only at h ⊢;obtain⟨g1,q1⟩:=p_sel hR n _ h;obtain⟨g2,q2⟩:=p0 g1;refine⟨g2,?_⟩
      have e:kEx (.leaf ((Zh L Yy st:Nat)+1) 0 (Wa nk L n (Yd L Yy st)).1 0 0 0)=[wd Yy (Zh L Yy st:Nat)]++Zkg (Wa nk L n (Yd L Yy st)).1:=by
        show kLeaf _ _ _ _ _ _=_;unfold kLeaf;rw[if_neg (by omega),if_pos (by omega)];congr 2
        rw[show((Zh L Yy st:Nat):Int)+1 - 1=(Zh L Yy st:Nat)from by omega]
      rw[e,Xu,Zga];omega
     ·rw[if_neg h12]at h ⊢
      by_cases h3:Zh L Yy st=3
      · rw[if_pos h3]at h ⊢
        dsimp only at h ⊢;obtain⟨g2,q2⟩:=p0 h;refine⟨g2,?_⟩;have e:kEx (.leaf 4 0 zSe 0 0 0)=[wd Yy 3]:=rfl;rw[h3]at q2;have e3:((3:Nat):Int)=3:=rfl;rw[e3]at q2;rw[e,Zga];omega
      · rw[if_neg h3]at h ⊢
        by_cases h4:Zh L Yy st=4
        ·rw[if_pos h4]at h ⊢
         dsimp only at h ⊢;obtain⟨g1,q1⟩:=Zew Zg _ h;obtain⟨g2,q2⟩:=p0 g1;refine⟨g2,?_⟩;have e:kEx (.leaf 5 0 zSe (Zh L Zg (Yd L Yy st):Nat) 0 0)=[wd Yy 4,wd Zg (Zh L Zg (Yd L Yy st):Nat)]:=rfl;rw[h4]at q2;have e3:((4:Nat):Int)=4:=rfl;rw[e3]at q2;rw[e];simp only[Wj,Wt];omega
        ·rw[if_neg h4]at h ⊢
         dsimp only at h ⊢;obtain⟨g1,q1⟩:=p_to hR _ h;obtain⟨g3,q3⟩:=Zew Zg _ g1;obtain⟨g2,q2⟩:=p0 g3;refine⟨g2,?_⟩;have h5:Zh L Yy st=5:=by omega
         have e:∀ a b c:Int,kEx (.leaf 6 0 zSe a b c)=[wd Yy 5,wd Zg a]++kTo b c:=fun _ _ _=>rfl
         rw[h5]at q2;have e3:((5:Nat):Int)=5:=rfl;rw[e3]at q2;rw[e];simp only[Xu,Wj,Wt];omega
theorem p_expr(hR:Uw L){n:Nat}{st:St}(hn:4*Zw L st+3≤n):Zbd L st (Yh nk L n st).2 (Vc (kEx (Yh nk L n st).1)):=(p_exprs hR n).1 st hn
theorem kA1{h:AH}  (c:h.kind=1∨h.kind=2∨h.kind=12):Zdo h=Zkg h.sel++kEx h.num:=by unfold Zdo;rw[if_pos c]
theorem kA2{h:AH}(n1:¬(h.kind=1∨h.kind=2∨h.kind=12))(c:h.kind=3∨h.kind=5∨h.kind=14):Zdo h=Zkg h.sel:=by unfold Zdo;rw[if_neg n1,if_pos c]
theorem kA3{h:AH}(n1:¬(h.kind=1∨h.kind=2∨h.kind=12))(n2:¬(h.kind=3∨h.kind=5∨h.kind=14))(c:h.kind=4):Zdo h=Zkg h.sel++kTo h.tk h.tl:=by unfold Zdo;rw[if_neg n1,if_neg n2,if_pos c]
theorem kA4{h:AH}(n1:¬(h.kind=1∨h.kind=2∨h.kind=12))(n2:¬(h.kind=3∨h.kind=5∨h.kind=14))(n3:¬(h.kind=4))(c:h.kind=6):Zdo h=[qN h.name,wd Zg h.side]++(kTo h.tk h.tl++kEx h.num):=by unfold Zdo;rw[if_neg n1,if_neg n2,if_neg n3,if_pos c]
theorem kA5{h:AH}(n1:¬(h.kind=1∨h.kind=2∨h.kind=12))(n2:¬(h.kind=3∨h.kind=5∨h.kind=14))(n3:¬(h.kind=4))(n4:¬(h.kind=6))(c:h.kind=7∨h.kind=9):Zdo h=[wd Zg h.side]++kEx h.num:=by unfold Zdo;rw[if_neg n1,if_neg n2,if_neg n3,if_neg n4,if_pos c]
theorem kA6{h:AH}(n1:¬(h.kind=1∨h.kind=2∨h.kind=12))(n2:¬(h.kind=3∨h.kind=5∨h.kind=14))(n3:¬(h.kind=4))(n4:¬(h.kind=6))(n5:¬(h.kind=7∨h.kind=9))(c:h.kind=8):Zdo h=[wd Zg h.side,wd Zde h.how]:=by unfold Zdo;rw[if_neg n1,if_neg n2,if_neg n3,if_neg n4,if_neg n5,if_pos c]
theorem kA7{h:AH}(n1:¬(h.kind=1∨h.kind=2∨h.kind=12))(n2:¬(h.kind=3∨h.kind=5∨h.kind=14))(n3:¬(h.kind=4))(n4:¬(h.kind=6))(n5:¬(h.kind=7∨h.kind=9))(n6:¬(h.kind=8)):Zdo h=[wd Zg h.side]++kTo h.tk h.tl:=by unfold Zdo;rw[if_neg n1,if_neg n2,if_neg n3,if_neg n4,if_neg n5,if_neg n6]
theorem p_plain(hR:Uw L){n k:Nat}{l c:Int}{st:St}(hk:1≤k∧k≤15∧k≠10∧k≠11)(hn:4*Zw L st+3≤n) :
  Zbd L st (Wq nk L n (AH.zero k l c) k st).2 (Vc (Zdo (Wq nk L n (AH.zero k l c) k st).1))∧(Wq nk L n (AH.zero k l c) k st).1.kind=k:=by
 unfold Wq;by_cases c1:k=1∨k=2∨k=12
 ·rw[if_pos c1]
  refine⟨fun h=>?_,rfl⟩;dsimp only at h ⊢;have r:=Zal L nk n st;obtain⟨g1,q1⟩:=p_expr hR (by omega) h;obtain⟨g2,q2⟩:=p_sel hR n _ g1;refine⟨g2,?_⟩;rw[kA1  (by show((k:Int)=1∨(k:Int)=2∨(k:Int)=12);omega),Xu];dsimp only;omega
 ·rw[if_neg c1]
  have n1:¬((k:Int)=1∨(k:Int)=2∨(k:Int)=12):=by omega
  by_cases c2:k=3∨k=5∨k=14
  ·rw[if_pos c2]
   refine⟨fun h=>?_,rfl⟩;dsimp only at h ⊢;obtain⟨g2,q2⟩:=p_sel hR n _ h;refine⟨g2,?_⟩;rw[kA2 n1 (by show((k:Int)=3∨(k:Int)=5∨(k:Int)=14);omega)];exact q2
  ·rw[if_neg c2]
   have n2:¬((k:Int)=3∨(k:Int)=5∨(k:Int)=14):=by omega
   by_cases c3:k=4
   ·rw[if_pos c3]
    refine⟨fun h=>?_,rfl⟩;dsimp only at h ⊢;obtain⟨g1,q1⟩:=p_to hR _ h;obtain⟨g2,q2⟩:=p_sel hR n _ g1;refine⟨g2,?_⟩;rw[kA3 n1 n2 (by show(k:Int)=4;omega),Xu];dsimp only;omega
   ·rw[if_neg c3]
    have n3:¬(k:Int)=4:=by omega
    by_cases c4:k=6
    ·rw[if_pos c4]
     refine⟨fun h=>?_,rfl⟩;dsimp only at h ⊢;have r1:=Zig L (Zp L Zg (Vf L st));have r2:=Xy L Zg (Vf L st);have r3:=Zav L st;obtain⟨g0,q0⟩:=p_expr hR (by omega) h;obtain⟨g1,q1⟩:=p_to hR _ g0;obtain⟨g2,q2⟩:=Zew Zg _ g1;obtain⟨g3,q3⟩:=p_name _ g2;refine⟨g3,?_⟩;rw[kA4 n1 n2 n3 (by show(k:Int)=6;omega)];simp only[Xu,Wj,Wt,Zhr];omega
    ·rw[if_neg c4]
     have n4:¬(k:Int)=6:=by omega
     by_cases c5:k=7∨k=9
     ·rw[if_pos c5]
      refine⟨fun h=>?_,rfl⟩;dsimp only at h ⊢;have r2:=Xy L Zg st;obtain⟨g0,q0⟩:=p_expr hR (by omega) h;obtain⟨g2,q2⟩:=Zew Zg _ g0;refine⟨g2,?_⟩;rw[kA5 n1 n2 n3 n4 (by show((k:Int)=7∨(k:Int)=9);omega)];simp only[Xu,Wj,Wt];omega
     ·rw[if_neg c5]
      have n5:¬((k:Int)=7∨(k:Int)=9):=by omega
      by_cases c6:k=8
      ·rw[if_pos c6]
       refine⟨fun h=>?_,rfl⟩;dsimp only at h ⊢;obtain⟨g0,q0⟩:=Zew Zde _ h;obtain⟨g2,q2⟩:=Zew Zg _ g0;refine⟨g2,?_⟩;rw[kA6 n1 n2 n3 n4 n5 (by show(k:Int)=8;omega)];simp only[Xu,Wj,Wt];omega
      ·rw[if_neg c6]
       have n6:¬(k:Int)=8:=by omega
       have c7:k=13∨k=15:=by omega
       rw[if_pos c7];refine⟨fun h=>?_,rfl⟩;dsimp only at h ⊢;obtain⟨g0,q0⟩:=p_to hR _ h;obtain⟨g2,q2⟩:=Zew Zg _ g0;refine⟨g2,?_⟩;rw[kA7 n1 n2 n3 n4 n5 n6];simp only[Xu,Wj,Wt];omega
theorem p_cond(hR:Uw L){n:Nat}{h0:AH}{st:St}(hn:4*Zw L st+3≤n):Zbd L st (Jv nk L n h0 st).2 (Vc (kCond (Jv nk L n h0 st).1)):=by
 intro h;unfold Jv at h ⊢;dsimp only at h ⊢;have r1:=Zcp L nk n st;have r2:=Xy L wOp (Yh nk L n st).2;obtain⟨g1,q1⟩:=p_expr hR (by omega) h;obtain⟨g2,q2⟩:=Zew wOp _ g1;obtain⟨g3,q3⟩:=p_expr hR hn g2;refine⟨g3,?_⟩;unfold kCond;simp only[Xu,Wj,Wt];omega
def kRest(h:AH)(t e:List ByteArray)(no:Bool):List ByteArray:=if h.kind=10 then kCond h++(Zky t++Zny no e)else if h.kind=11 then Zkg h.sel++Zky t else Zdo h++[Xj]
theorem kRest_11{h:AH}{t e:List ByteArray}{no:Bool}(hk:h.kind=11):kRest h t e no=Zkg h.sel++Zky t:=by
 unfold kRest;rw[if_neg (by omega),if_pos hk]
theorem kBlk_len(X:List ByteArray):Vc (Zky X)=Vc X+4:=by
 unfold Zky;have e1:Yv.size=1:=rfl;have e2:Xi.size=1:=rfl;simp only[Xu,Wj,Wt,e1,e2];omega
theorem kElse_len(no:Bool)(X:List ByteArray):Vc (Zny no X)≤Vc (Zky X)+5:=by
 unfold Zny;have e1:Jf.size=4:=rfl;split
 ·simp only[Wt];omega
 ·simp only[Xu,Wj,Wt,e1];omega
theorem p_acts(hR:Uw L):∀ n:Nat,
  (∀ st,4*Zw L st+1≤n→Zbd L st (Ww nk L n st).2 (Vc (Zaz (Ww nk L n st).1))) ∧
  (∀(k:Nat)(l c:Int) st,1≤k∧k≤15→4*Zw L st+4≤n→Zbd L st (Zcg nk L n (AH.zero k l c) k st).st (Vc (kRest (Zcg nk L n (AH.zero k l c) k st).h (Zaz (Zcg nk L n (AH.zero k l c) k st).thn) (Zaz (Zcg nk L n (AH.zero k l c) k st).els) (Zcg nk L n (AH.zero k l c) k st).els.isNil)) ∧
    (Zcg nk L n (AH.zero k l c) k st).h.kind=k) ∧
  (∀ st,4*Zw L st+3≤n→Zbd L st (Yu nk L n st).2 (Vc (Zky (Zaz (Yu nk L n st).1))))
 |0=>⟨fun st h=>by omega,fun k l c st _ h=>by omega,fun st h=>by omega⟩
 |n+1=>by
  obtain⟨i1,i2,i3⟩:=p_acts hR n;refine⟨fun st hn=>?_,fun k l c st hk hn=>?_,fun st hn h=>?_⟩
  · rw[Ww]
    by_cases h0:Zh L Xr st=0
    ·rw[if_pos h0];exact Zmt st
    ·rw[if_neg h0]
     dsimp only;have r1:=Vq L h0;have r2:=rem_act L nk n (AH.zero (Zh L Xr st) (st.tok L).line (st.tok L).col) (Zh L Xr st) (Yd L Xr st);have hle:Zh L Xr st≤15:=Zqt (L:=L) Xr st;obtain⟨a1,a2⟩:=i2 (Zh L Xr st) (st.tok L).line (st.tok L).col (Yd L Xr st) ⟨by omega,hle⟩ (by omega);intro h;obtain⟨g1,q1⟩:=i1 _ (by omega) h;obtain⟨g2,q2⟩:=a1 g1;obtain⟨g3,q3⟩:=Zjp h0 g2;refine⟨g3,?_⟩;unfold Zaz;have e:∀(h:AH)(t e:List ByteArray)(no:Bool),kAct h t e no=[wd Xr h.kind]++kRest h t e no:=fun _ _ _ _=>rfl
     rw[e,a2];simp only[Xu,Wj,Wt];omega
  · rw[Zcg]
    by_cases h10:k=10
    ·rw[if_pos h10]
     subst h10;have r1:=Znk L nk n (AH.zero (10:Nat) l c) st;have r2:=Zgt L nk n (Jv nk L n (AH.zero (10:Nat) l c) st).2;have e10:(Jv nk L n (AH.zero (10:Nat) l c) st).1.kind=10:=rfl;by_cases he:isS L Jf (Yu nk L n (Jv nk L n (AH.zero (10:Nat) l c) st).2).2=true
     ·rw[if_pos he]
      refine⟨fun h=>?_,rfl⟩;dsimp only at h ⊢;have r3:=Zfu L he;obtain⟨g1,q1⟩:=i3 _ (by omega) h;obtain⟨g2,q2⟩:=p_took he g1;obtain⟨g3,q3⟩:=i3 _ (by omega) g2;obtain⟨g4,q4⟩:=p_cond hR (by omega) g3;refine⟨g4,?_⟩;unfold kRest;rw[if_pos e10];have e1:Jf.size=4:=rfl;rw[e1]at q2;have hel:=kElse_len (Yu nk L n (Wf L Jf (Yu nk L n (Jv nk L n (AH.zero (10:Nat) l c) st).2).2)).1.isNil (Zaz (Yu nk L n (Wf L Jf (Yu nk L n (Jv nk L n (AH.zero (10:Nat) l c) st).2).2)).1);simp only[Xu];omega
     ·rw[if_neg he]
      refine⟨fun h=>?_,rfl⟩;dsimp only at h ⊢;obtain⟨g3,q3⟩:=i3 _ (by omega) h;obtain⟨g4,q4⟩:=p_cond hR (by omega) g3;refine⟨g4,?_⟩;unfold kRest;rw[if_pos e10];have e:Zny (Acs.nil).isNil (Zaz .nil)=[]:=rfl;rw[e];simp only[Xu,Wt];omega
    ·rw[if_neg h10]
     by_cases h11:k=11
     ·rw[if_pos h11]
      subst h11;have r1:=Zal L nk n st;refine⟨fun h=>?_,rfl⟩;dsimp only at h ⊢;obtain⟨g3,q3⟩:=i3 _ (by omega) h;obtain⟨g4,q4⟩:=p_sel hR n _ g3;refine⟨g4,?_⟩;rw[kRest_11 rfl];simp only[Xu];omega
     ·rw[if_neg h11]
      obtain⟨a1,a2⟩:=p_plain (nk:=nk) (l:=l) (c:=c) hR (n:=n) (k:=k) (st:=st) ⟨hk.1,hk.2,h10,h11⟩ (by omega);refine⟨fun h=>?_,a2⟩;dsimp only at h ⊢;obtain⟨g3,q3⟩:=Zih Xj _ h;obtain⟨g4,q4⟩:=a1 g3;refine⟨g4,?_⟩;unfold kRest;rw[a2,if_neg (by omega),if_neg (by omega)];simp only[Xu,Zga];omega
  · rw[Yu]at h ⊢
    dsimp only at h ⊢;have r1:=Zik L Yv st;obtain⟨g1,q1⟩:=p_rise Xi _ h;obtain⟨g2,q2⟩:=i1 _ (by omega) g1;obtain⟨g3,q3⟩:=p_down Yv _ g2;refine⟨g3,?_⟩;rw[kBlk_len];omega
theorem p_str(hR:Uw L)(k:Nat)(st:St):Zbd L st (Zeh L k st) (Vc (if k=5 then [Xf (Zoi L k st)]else [])):=by
 unfold Zeh Zoi;by_cases h5:k=5
 ·rw[if_pos h5,if_pos h5,if_pos h5,Zga]
  exact p_less (p_int hR st) (by omega)
 ·rw[if_neg h5,if_neg h5]
  exact Zmt st
theorem p_rules(hR:Uw L):∀(n:Nat)(st:St),4*Zw L st+2≤n→Zbd L st (Vg nk L n st).2 (Vc ((Vg nk L n st).1.flatMap kRu))
 |0,st,h=>by omega
 |n+1,st,hn=>by
  rw[Vg];by_cases h0:Zh L Yx st=0
  ·rw[if_pos h0];exact Zmt st
  ·rw[if_neg h0]
   intro h;dsimp only at h ⊢;have r1:=Vq L h0;have r2:=Zqe L (Zh L Yx st) (Yd L Yx st);have r3:=We L Yv (Zeh L (Zh L Yx st) (Yd L Yx st));have r4:=Znl L nk n (Yb L Yv (Zeh L (Zh L Yx st) (Yd L Yx st)));have r5:=We L Xi (Ww nk L n (Yb L Yv (Zeh L (Zh L Yx st) (Yd L Yx st)))).2;obtain⟨g1,q1⟩:=p_rules hR n _ (by omega) h;obtain⟨g2,q2⟩:=Zih Xi _ g1;obtain⟨g3,q3⟩:=(p_acts (nk:=nk) hR n).1 _ (by omega) g2;obtain⟨g4,q4⟩:=Zih Yv _ g3;obtain⟨g5,q5⟩:=p_str hR _ _ g4;obtain⟨g6,q6⟩:=Zjp h0 g5;refine⟨g6,?_⟩;have er:∀ r:Ru,kRu r=[wd Yx r.when_]++((if r.when_=5 then [Xf r.stratum]else [])++Zky (Zaz r.acts)):=fun _=>rfl
   rw[List.flatMap_cons,Xu,er];dsimp only
   have e:(if((Zh L Yx st:Nat):Int)=5 then [Xf (Zoi L (Zh L Yx st) (Yd L Yx st))]else [])=if Zh L Yx st=5 then [Xf (Zoi L (Zh L Yx st) (Yd L Yx st))]else []:=by
    by_cases h5:Zh L Yx st=5
    ·rw[if_pos h5,if_pos (by omega)]
    ·rw[if_neg h5,if_neg (by omega)]
   rw[e];simp only[Xu,Zga,kBlk_len];omega
theorem p_body(hR:Uw L){n:Nat}{st:St}(hn:4*Zw L st+2≤n):Zbd L st (Zhl nk L n st).2 (Vc (Znz (Zhl nk L n st).1)):=by
 intro h;unfold Zhl at h ⊢;dsimp only at h ⊢;have r1:=We L Yv st;obtain⟨g1,q1⟩:=Zih Xi _ h;obtain⟨g2,q2⟩:=p_rules hR n _ (by omega) g1;obtain⟨g3,q3⟩:=Zih Yv _ g2;refine⟨g3,?_⟩;unfold Znz;simp only[Xu,Zga];omega
theorem p_card(hR:Uw L){n:Nat}{l c:Int}{st:St}(hn:4*Zw L st+2≤n):Zbd L st (Zfg nk L n l c st).2 (Vc (kCa (Zfg nk L n l c st).1) - ((wd Xs 1).size+1)):=by
 intro h;unfold Zfg at h ⊢;dsimp only at h ⊢;have r1:=Zav L st;have r2:=We L Zcn (Vf L st);have r3:=Zhq L (Yb L Zcn (Vf L st));have r4:=We L Zcd (Zba L (Yb L Zcn (Vf L st)));have r5:=Zij L (Yb L Zcd (Zba L (Yb L Zcn (Vf L st))));obtain⟨g1,q1⟩:=p_body hR (by omega) h;obtain⟨g2,q2⟩:=p_sign hR _ g1;obtain⟨g3,q3⟩:=Zih Zcd _ g2;obtain⟨g4,q4⟩:=p_int hR _ g3;obtain⟨g5,q5⟩:=Zih Zcn _ g4;obtain⟨g6,q6⟩:=p_name _ g5;refine⟨g6,?_⟩;unfold kCa;simp only[Xu,Wj,Wt,Zhr];omega
theorem p_place(hR:Uw L){n:Nat}{l c:Int}{st:St}(hn:4*Zw L st+2≤n):Zbd L st (Zce nk L n l c st).2 (Vc (kPl (Zce nk L n l c st).1) - ((wd Xs 2).size+1)):=by
 intro h;unfold Zce at h ⊢;dsimp only at h ⊢;have r1:=Zav L st;obtain⟨g1,q1⟩:=p_body hR (by omega) h;obtain⟨g6,q6⟩:=p_name _ g1;refine⟨g6,?_⟩;unfold kPl;simp only[Xu,Wj,Wt,Zhr];omega
def Zkx(f:Fi):Nat:=(f.cards.map fun c=>Vc (kCa c)+1).sum+(f.places.map fun p=>Vc (kPl p)+1).sum
theorem kCa_len(c:Ca):(wd Xs 1).size+1≤Vc (kCa c):=by unfold kCa;simp only[Xu,Wj,Wt];omega
theorem kPl_len(p:Pl):(wd Xs 2).size+1≤Vc (kPl p):=by unfold kPl;simp only[Xu,Wj,Wt];omega
theorem p_file(hR:Uw L):∀(n:Nat)(st:St),4*Zw L st+1≤n→Zbd L st (Vv nk L n st).2 (Zkx (Vv nk L n st).1)
 |0,st,h=>by omega
 |n+1,st,hn=>by
  rw[Vv];by_cases h0:Zh L Xs st=0
  ·rw[if_pos h0];exact Zmt st
  ·rw[if_neg h0]
   have r1:=Vq L h0;have p0:=Zjp h0;by_cases h1:Zh L Xs st=1
   ·rw[if_pos h1]
    intro h;dsimp only at h ⊢;have r2:=rem_card L nk n (st.tok L).line (st.tok L).col (Yd L Xs st);obtain⟨g1,q1⟩:=p_file hR n _ (by omega) h;obtain⟨g2,q2⟩:=p_card hR (by omega) g1;obtain⟨g3,q3⟩:=p0 g2;refine⟨g3,?_⟩;rw[h1]at q3;have e3:((1:Nat):Int)=1:=rfl;rw[e3]at q3;have:=kCa_len (Zfg nk L n (st.tok L).line (st.tok L).col (Yd L Xs st)).1;unfold Zkx at q1 ⊢;simp only[List.map_cons,List.sum_cons];omega
   ·rw[if_neg h1]
    have h2:Zh L Xs st=2:=by have:Zh L Xs st≤2:=Zqt (L:=L) Xs st;omega
    intro h;dsimp only at h ⊢;have r2:=rem_place L nk n (st.tok L).line (st.tok L).col (Yd L Xs st);obtain⟨g1,q1⟩:=p_file hR n _ (by omega) h;obtain⟨g2,q2⟩:=p_place hR (by omega) g1;obtain⟨g3,q3⟩:=p0 g2;refine⟨g3,?_⟩;rw[h2]at q3;have e3:((2:Nat):Int)=2:=rfl;rw[e3]at q3;have:=kPl_len (Zce nk L n (st.tok L).line (st.tok L).col (Yd L Xs st)).1;unfold Zkx at q1 ⊢;simp only[List.map_cons,List.sum_cons];omega
end
theorem tokL_to(l:List Int):(Yj l).2.2.1≤(Yj l).2.2.2:=by
 cases l with
 |nil=>exact Θ _
 |cons c r=>
  refine Zaq c r (fun x=>x.2.2.1≤x.2.2.2) ?_ ?_ ?_ ?_ ?_ ?_ ?_ ?_<;>intros<;>simp
theorem Tr.weight{s:ByteArray}{a:Nat}{L:List TokV}(h:Tr s a L):wtL L+10*a≤10*s.size+9:=by
 induction h with
 |fin a ha=>
  have e:wtL [Zpe s a]=9:=rfl;rw[e];omega
 |skip a b L hab _ ih=>omega
 |tok a L ha hk _ _ ih=>
  have h1:=Zcm s ha (by omega);have h2:=tokL_to (Zl s a);have e:wtL (Zgz s a::L)=(Zgz s a).t.size+9+wtL L:=by simp[wtL,wt]
  have h3:(Zgz s a).t.size≤(Yj (Zl s a)).2.2.2:=by
   show(s.extract _ _).size≤_;rw[ByteArray.size_extract];omega
  rw[e];omega
theorem text_weight(s:ByteArray)(hs:s.size≤65536):WS (Wy s) (Jz s)≤10*s.size+9:=by
 obtain⟨L,E,p,hc⟩:∃ L E p,Zaa s 0 []=(L,E,p):=⟨_,_,_,rfl⟩
 have hf:=Zjf s s.size 0 [] L E p (by omega) (by omega) (Bd.zero s) hc;unfold Jz Wy;rw[Zhb s hs hc];by_cases hE:E=0
 ·obtain⟨L2,h2,h3⟩:=hf.1 hE
  have e:L=L2:=h2;subst e;rw[if_pos hE];have:=h3.weight;show wtL (List.drop 0 L)≤_;rw[List.drop_zero];omega
 ·rw[if_neg hE,if_neg hE]
  exact Nat.zero_le _
theorem parse_len(nk:Int)(s:ByteArray)(hs:s.size≤65536):Zkx (Zms nk s).1≤10*s.size+9:=by
 unfold Zms;dsimp only;by_cases hg:(Xp (Wy s) (fileO nk s).2).good=true
 ·rw[if_pos hg]
  have h2:=over_good hg;unfold fileO at h2 ⊢;rcases text_ok s hs with⟨F,e1,e2⟩ | ⟨e1,hr⟩
  ·rw[e1,show Zda s=(Zda s - 1)+1 from by unfold Zda;omega,file_off]at h2
   cases h2
  ·have:=(p_file (nk:=nk) hr (Zda s) (Jz s) (by have:=Znd s;unfold Zda;omega) h2).2
   have:=text_weight s hs;omega
 ·rw[if_neg hg]
  exact Nat.zero_le _
open Go.Great Go.ChangeShapes Go.WideShapes Go.ChangeAt Go.RowKit
theorem feed_base(B:Nat)(w:World)(b:Nat)(a v:Value)(st:List Int×Bool)(h:Zbc 121 [.bool st.2] B w b a v st.1)(hB:B≤w.heap.size)(hl:st.1.length≤68719476736) :
  Calls Φ 63 #[Ω (some ⟨b,0,none⟩)] w (Zka B w b v (fdS st)):=by
 have H0:=Hh h;clear h;go_enter Tryz.func63,Tryz.ntmps63;go_wp2_with(go_at_call 84;refine(Zle 10 H0.out Zev hl hB).mono ?_;rintro e w1 ⟨rfl,v1,h1,s1⟩;have H1:=Hh h1;have S1:=Hh s1;have c2:w1.cell? ⟨b,2,none⟩=some (.bool st.2):=(by rw[h1.whole.read];rfl);have z2:=h1.whole.thawed 2;clear h1 s1)
 go_end0
 exact⟨rfl,_,v1,H1.out.setLo _,S1.out.setLo _⟩
theorem pFeed{w0 x:World}{b:Nat}{st:List Int×Bool}{own:List Bk}(h:PE w0 b st own x)(hl:st.1.length≤68719476736):Calls Φ 63 #[Ω (some ⟨b,0,none⟩)] x (Zib w0 b (fdS st) own):=
 h.print fun a v hb hB=>feed_base _ x b a v st hb hB hl
theorem cas_at{N:Nat→Prop}{w:World}:∀{l:List Ca}{xs:List Value},Zt N w (Zgl l) xs→∀(k:Nat)(hk:k<l.length),∃ pre ys post,xs=pre++ys++post∧pre.length=k*6∧Zt N w (l[k]'hk).ds ys
 |[],xs,_,k,hk=>by cases hk
 |x::r,xs,h,k,hk=>by
  obtain⟨a,b,rfl,h1,h2⟩:=Zt.split (x:=x.ds) h;cases k with
  |zero=>exact⟨[],a,b,rfl,by simp,h1⟩
  |succ k=>
   obtain⟨pre,ys,post,rfl,hp,hy⟩:=cas_at h2 k (by simpa using hk);have hl:a.length=6:=by rw[h1.len];rfl
   exact⟨a++pre,ys,post,by simp,by rw[List.length_append,hp,hl];omega,hy⟩
theorem pls_at{N:Nat→Prop}{w:World}:∀{l:List Pl}{xs:List Value},Zt N w (Zhh l) xs→∀(k:Nat)(hk:k<l.length),∃ pre ys post,xs=pre++ys++post∧pre.length=k*4∧Zt N w (l[k]'hk).ds ys
 |[],xs,_,k,hk=>by cases hk
 |x::r,xs,h,k,hk=>by
  obtain⟨a,b,rfl,h1,h2⟩:=Zt.split (x:=x.ds) h;cases k with
  |zero=>exact⟨[],a,b,rfl,by simp,h1⟩
  |succ k=>
   obtain⟨pre,ys,post,rfl,hp,hy⟩:=pls_at h2 k (by simpa using hk);have hl:a.length=4:=by rw[h1.len];rfl
   exact⟨a++pre,ys,post,by simp,by rw[List.length_append,hp,hl];omega,hy⟩
theorem qz_ca:(Tryz.prog.info? 35).map (fun i=>i.zero.map Value.cells)=some (some ([Ψ ⟨#[]⟩,I J 0,I J 0,I J 0,I J 0,Λ none 0 0]:List Value).toArray):=by kernel_rfl
theorem qz_pl:(Tryz.prog.info? 38).map (fun i=>i.zero.map Value.cells)=some (some ([Ψ ⟨#[]⟩,I J 0,I J 0,Λ none 0 0]:List Value).toArray):=by kernel_rfl
def lnS{α:Type}(k:α→List ByteArray)(l:List α)(s:List Int×Bool)(m:Nat):List Int×Bool:=(l.take m).foldl (Zhu k) s
theorem lnS_end{α:Type}(k:α→List ByteArray)(l:List α)(s:List Int×Bool):lnS k l s l.length=l.foldl (Zhu k) s:=by unfold lnS;rw[List.take_length]
theorem lnS_next{α:Type}(k:α→List ByteArray)(l:List α)(s:List Int×Bool){m:Nat}(h:m<l.length):lnS k l s (m+1)=fdS (Zs (lnS k l s m) (k (l[m]'h))):=by
 unfold lnS;rw[List.take_succ_eq_append_getElem h,List.foldl_append];rfl
def Zht{α:Type}(k:α→List ByteArray)(l:List α):Nat:=(l.map fun x=>Vc (k x)+1).sum
theorem Znv{α:Type}(k:α→List ByteArray):∀(l:List α)(s:List Int×Bool),(l.foldl (Zhu k) s).1.length≤s.1.length+Zht k l
 |[],s=>Θ _
 |x::l,s=>by
  have h1:=Znv k l (Zhu k s x);have h2:=Zlp (k x) s;have h3:(Zhu k s x).1.length=(Zs s (k x)).1.length+1:=by unfold Zhu fdS;simp
  have h4:Zht k (x::l)=Vc (k x)+1+Zht k l:=by unfold Zht;simp
  rw[List.foldl_cons,h4];omega
theorem lnS_room{α:Type}{k:α→List ByteArray}{l:List α}{s:List Int×Bool}(r:s.1.length+Zht k l≤10000000000){m:Nat}(h:m<l.length):Yw (lnS k l s m) (k (l[m]'h))∧(Zs (lnS k l s m) (k (l[m]'h))).1.length≤68719476736:=by
 have h1:=Znv k (l.take m) s
 have h2:Zht k l=Zht k (l.take m)+(Vc (k (l[m]'h))+1)+Zht k (l.drop (m+1)):=by
  unfold Zht;conv=>lhs;rw[←List.take_append_drop m l]
  rw[List.map_append,List.sum_append,List.drop_eq_getElem_cons h,List.map_cons,List.sum_cons];omega
 have h3:=Zlp (k (l[m]'h)) (lnS k l s m);unfold Yw lnS at *;omega
theorem pFile(w0:World)(N:Nat→Prop)(f:Fi)(hv:VFi f)(vs:List Value)(hd:Zt N w0 f.ds vs)(b:Nat)(st:List Int×Bool)(own:List Bk)(x:World)(h:PE w0 b st own x)(hr:st.1.length+Zkx f≤10000000000) :
  Calls Φ 34 #[Ω (some ⟨b,0,none⟩),.agg vs.toArray] x (Zib w0 b (fileT st f) own):=by
 obtain⟨cards,places⟩:=f;obtain⟨A,ac,xs,_,rfl,hn,hw,hx,B,bc,ys,_,rfl,hk,hw2,hx2,rfl⟩:=hd;have hlen:Zkx ⟨cards,places⟩=Zht kCa cards+Zht kPl places:=rfl;rw[hlen]at hr;have r1:st.1.length+Zht kCa cards≤10000000000:=by omega
 obtain⟨s1,e1⟩:∃ s,s=cards.foldl (Zhu kCa) st:=⟨_,rfl⟩
 have r2:s1.1.length+Zht kPl places≤10000000000:=by
  have:=Znv kCa cards st;rw[e1];omega
 have ef:fileT st ⟨cards,places⟩=lnS kPl places s1 places.length:=by rw[lnS_end,e1];rfl
 have e1':lnS kCa cards st cards.length=s1:=by rw[lnS_end,e1]
 rw[ef];obtain⟨n,hn0⟩:∃ n,n=cards.length:=⟨_,rfl⟩
 obtain⟨k,hk0⟩:∃ k,k=places.length:=⟨_,rfl⟩
 rw[←hn0]at hn ⊢;rw[←hk0]at hk ⊢;have R1:=Hh r1;have R2:=Hh r2;have E1:=Hh e1';have HN:=Hh hn0;have HK:=Hh hk0;have HW1:=Hh (ζ hw hx);have HW2:=Hh (ζ hw2 hx2);have HV1:=Hh hv.1;have HV2:=Hh hv.2;clear hr r1 e1 r2 ef e1' hn0 hk0 hw hx hw2 hx2 hv hlen;have l63:(n:Int)≤9223372036854775807:=by omega
 have k63:(k:Int)≤9223372036854775807:=by omega
 have T:=Hh h;clear h;go_enter Tryz.func34,Tryz.ntmps34;go_wp2_with(first
 |((with_reducible refine Zd 3 ?_);refine Yp T.out 26 _ ([Λ A n ac,Λ B k bc]) rfl rfl rfl ?_;intro wn g0 tn;have T:=Hh tn;clear tn;have c0_0:=T.out.cell 0 0 rfl rfl;have c0_1:=T.out.cell 0 1 rfl rfl))
 go_loopw [11] (fun i wr=>∃ m:Nat,i=I J m∧m≤n∧PE w0 b (lnS kCa cards st m) ((g0,26,[Λ A n ac,Λ B k bc])::own) wr) (fun i _=>n - (intOf i).toNat)
 case atStart=>exact⟨0,by go_num,Nat.zero_le _,T.out⟩
 case round=>
  obtain⟨m,rfl,hm,hT⟩:=hrel;have T:=Hh hT;clear hT;by_cases hlt:m<n
  · have hk1:m<cards.length:=by rw[←HN.out];exact hlt
    obtain⟨pre,ys,post,hxs,hp,hy⟩:=cas_at HW1.out.2 m hk1;have hyl:ys.length=6:=by rw[hy.len];rfl
    obtain⟨g,rfl,hg,hc⟩:=HW1.out.1.reads (by rw[hxs];simp;omega);have hR:w0.rangeAt g (m*6) ys:=Zhg (by rw[hxs]at hc;exact hc) hp;have hnx:=lnS_next kCa cards st hk1;have hrm:=lnS_room R1.out hk1;have P1:=Hh ((pCard w0 N (cards[m]'hk1) (HV1.out _ (List.getElem_mem hk1)) ys hy).at_ (b:=b) rfl hrm.1);have HF:=Hh hrm.2;have HR:=Hh hR;have HY:=Hh hy.one;have HYL:=Hh hyl;have HNX:=Hh hnx;clear hxs hp hc hR hy hyl hnx hrm;have lk:(m:Int)<(n:Int):=by omega
    go_wp2_with(first
 |((with_reducible refine Zd 14 ?_);refine Zr 35 _ g (m*6) (ys) (T.out.ranges HR.out hg) Zjm (by rw[HYL.out];exact Zdm) rfl rfl rfl ?_)
 |((with_reducible refine Zd 5 ?_);refine Vx T.out 35 _ rfl rfl qz_ca ?_;intro wn g5 tn;have T:=Hh tn;clear tn)
 |((with_reducible refine Zi 5 14 ?_);refine Za 35 _ _ 35 g5 _ (ys) (T.out.get 0 rfl) HYL.out (by rw[HYL.out];exact Zdm) HY.out rfl rfl rfl rfl rfl ?_;intro wn p;have T:=Hh (T.out.put 0 rfl p);clear p)
 |((with_reducible refine Zd 16 ?_);refine Zb 35 _ 35 g5 (ys) (T.out.get 0 rfl) Zjm (by rw[HYL.out];exact Zdm) rfl rfl rfl ?_)
 |(go_at_call 28;refine(P1.out _ _ T.out).mono ?_;rintro e wn ⟨rfl,tn⟩;have T:=Hh tn;clear tn)
 |(go_at_call 63;refine(pFeed T.out HF.out).mono ?_;rintro e wn ⟨rfl,tn⟩;have T:=Hh tn;clear tn))
    go_roundw
    case rel=>exact⟨m+1,by go_num,by omega,by rw[HNX.out];exact T.out.tail⟩
    case measure=>simp[intOf];omega
  · have hmn:m=cards.length:=by have:=HN.out;omega
    have T3:PE w0 b s1 ((g0,26,[Λ A n ac,Λ B k bc])::own) wr:=by
     have:=T.out;rw[hmn,E1.out]at this;exact this
    have T:=Hh T3;clear T3 hmn;have lk:¬(m:Int)<(n:Int):=by omega
    have c0_1:=T.out.cell 0 1 rfl rfl;go_wp2_with fail
    go_loopw [24] (fun i wr=>∃ m:Nat,i=I J m∧m≤k∧PE w0 b (lnS kPl places s1 m) ((g0,26,[Λ A n ac,Λ B k bc])::own) wr) (fun i _=>k - (intOf i).toNat)
    case atStart=>exact⟨0,by go_num,Nat.zero_le _,T.out⟩
    case round=>
     obtain⟨m,rfl,hm,hT⟩:=hrel;have T:=Hh hT;clear hT;by_cases hlt:m<k
     ·have hk1:m<places.length:=by rw[←HK.out];exact hlt
      obtain⟨pre,ys,post,hxs,hp,hy⟩:=pls_at HW2.out.2 m hk1;have hyl:ys.length=4:=by rw[hy.len];rfl
      obtain⟨g,rfl,hg,hc⟩:=HW2.out.1.reads (by rw[hxs];simp;omega);have hR:w0.rangeAt g (m*4) ys:=Zhg (by rw[hxs]at hc;exact hc) hp;have hnx:=lnS_next kPl places s1 hk1;have hrm:=lnS_room R2.out hk1;have P1:=Hh ((pPlace w0 N (places[m]'hk1) (HV2.out _ (List.getElem_mem hk1)) ys hy).at_ (b:=b) rfl hrm.1);have HF:=Hh hrm.2;have HR:=Hh hR;have HY:=Hh hy.one;have HYL:=Hh hyl;have HNX:=Hh hnx;clear hxs hp hc hR hy hyl hnx hrm;have lk:(m:Int)<(k:Int):=by omega
      go_wp2_with(first
 |((with_reducible refine Zd 27 ?_);refine Zr 38 _ g (m*4) (ys) (T.out.ranges HR.out hg) Zjl (by rw[HYL.out];exact Zdl) rfl rfl rfl ?_)
 |((with_reducible refine Zd 7 ?_);refine Vx T.out 38 _ rfl rfl qz_pl ?_;intro wn g5 tn;have T:=Hh tn;clear tn)
 |((with_reducible refine Zi 7 27 ?_);refine Za 38 _ _ 38 g5 _ (ys) (T.out.get 0 rfl) HYL.out (by rw[HYL.out];exact Zdl) HY.out rfl rfl rfl rfl rfl ?_;intro wn p;have T:=Hh (T.out.put 0 rfl p);clear p)
 |((with_reducible refine Zd 29 ?_);refine Zb 38 _ 38 g5 (ys) (T.out.get 0 rfl) Zjl (by rw[HYL.out];exact Zdl) rfl rfl rfl ?_)
 |(go_at_call 32;refine(P1.out _ _ T.out).mono ?_;rintro e wn ⟨rfl,tn⟩;have T:=Hh tn;clear tn)
 |(go_at_call 63;refine(pFeed T.out HF.out).mono ?_;rintro e wn ⟨rfl,tn⟩;have T:=Hh tn;clear tn))
      go_roundw
      case rel=>exact⟨m+1,by go_num,by omega,by rw[HNX.out];exact T.out.tail⟩
      case measure=>simp[intOf];omega
     ·obtain rfl:m=k:=by omega
      have lk:¬(m:Int)<(m:Int):=by omega
      go_wp2
      go_end0
      exact⟨rfl,T.out.tail⟩
section
variable {L:List TokV} {nk:Int}
end
theorem bdText0{T:TypeId}{rest:List Value}{B:Nat}{w:World}{b:Nat}{a v:Value}(h:Zbc T rest B w b a v []) :
  Calls Φ 55 #[Ω (some ⟨b,0,none⟩)] w fun e w'=>e=η (.string .empty)∧Below B w w':=by
 have hown:=h.row;have hbi:b<w.heap.size:=h.whole.inside;have hB:B≤w.heap.size:=by have:=h.lo;omega
 have c1:w.cell? ⟨b,1,none⟩=some v:=by rw[h.whole.read];rfl
 have hUS:∀ p,(Builtin.unsafeString_ #[153,3] 9 #[.pointer p,I J 0]).run Φ w.drew=.ok (.string .empty) w.drew:=fun p=>Lib.run_unsafeString_none _ _ _ _ p
 rcases hown.2 with⟨rfl,hz⟩ | ⟨g,cap,cur,rfl,hbg,hg,hnc,hcm,hcs,htake⟩
 ·have hSD:(Builtin.unsafeSliceData_ #[117] 153 #[Λ none 0 0]).run Φ w.drew=.ok (Ω none) w.drew:=rfl
  clear hown h;go_enter Tryz.func55,Tryz.ntmps55;go_wp2
  go_region
  all_goals(go_wp2;go_ret;exact⟨rfl,Below.drew (Below.refl B w)⟩)
 ·by_cases hc:cap=0
  ·subst hc
   have hsh:w.drew.shape? g=some (5,cur.size):=by
    have hg':w.drew.heap[g]?=some (.cells cur 5 (0,0)):=hg;simp[World.shape?,hg']
   have hSD:=Lib.run_unsafeSliceData_zero (P:=Φ) w.drew #[117] 153 5 Tryz.underlying153 ⟨g,0,none⟩ 0 _ hsh;have hUS2:=Lib.run_unsafeString_none (P:=Φ) (w.alloc (.view ⟨g,0,none⟩ 5)).drew 153 3 9 (some ⟨w.heap.size,0,none⟩);clear hown h htake hcs hg hsh;go_enter Tryz.func55,Tryz.ntmps55;go_wp2
   go_region
   all_goals(go_wp2;go_ret;exact⟨rfl,Below.drew ((Below.refl B w).alloc hB _)⟩)
  ·have hSD:(Builtin.unsafeSliceData_ #[117] 153 #[Λ (some ⟨g,0,none⟩) 0 cap]).run Φ w.drew=.ok (Ω (some ⟨g,0,none⟩)) w.drew:=
    Lib.run_unsafeSliceData_row _ _ _ _ _ _ hc
   clear hown h htake hcs hg;go_enter Tryz.func55,Tryz.ntmps55;go_wp2
   go_region
   all_goals(go_wp2;go_ret;exact⟨rfl,Below.drew (Below.refl B w)⟩)
theorem qTextE{w0 x:World}{b:Nat}{st:List Int×Bool}{own:List Bk}(h:PE w0 b st own x)(hb:∀ x ∈ st.1,0≤x∧x<256) :
  Calls Φ 55 #[Ω (some ⟨b,0,none⟩)] x fun e y=>e=η (Ψ (strOfNums st.1))∧Below w0.heap.size x y:=by
 by_cases hne:st.1=[]
 ·obtain⟨a,v,h,u⟩:=h
  have h0:(b,121,[a,v,.bool st.2]) ∈ (b,121,[a,v,Value.bool st.2])::own:=by simp
  have hr:=h.row _ (List.mem_singleton.2 rfl);have ha:=h.apart _ (List.mem_singleton.2 rfl);have hbd:Zbc 121 [.bool st.2] w0.heap.size x b a v st.1:=⟨h.at_ _ h0,hr,h.lo _ h0,ha _ h0,u⟩
  rw[hne]at hbd ⊢;exact bdText0 hbd
 ·exact qText h hb hne
theorem formFileT(w:World)(vs:List Value)(hvl:vs.length=2)(s1:List Int×Bool)(hp:∀ b own x,PE w b ([],false) own x→Calls Φ 34 #[Ω (some ⟨b,0,none⟩),.agg vs.toArray] x (Zib w b s1 own))(hby:∀ x ∈ s1.1,0≤x∧x<256) :
  Calls Φ 33 #[.func (.func 34) #[] #[],.agg vs.toArray] w fun e y=>e=η (Ψ (strOfNums s1.1))∧Below w.heap.size w y:=by
 have P1:=Hh hp;have HVL:=Hh hvl;have HB:=Hh hby;clear hby hp hvl;have T:=Hh (Env.start w);go_enter Tryz.func33,Tryz.ntmps33;go_wp2_with(first
 |((with_reducible refine Zd 3 ?_);refine Zk T.out 26 _ vs rfl rfl rfl ?_;intro wn g0 tn;have T:=Hh tn;clear tn)
 |((with_reducible refine Zd 5 ?_);refine Zc T.out 121 _ rfl rfl qz_pr ?_;intro wn b tn;have T:=Hh (PE.start (own:=[(g0,26,vs)]) tn);clear tn)
 |((with_reducible refine Zd 7 ?_);refine Zb 26 _ 26 g0 vs (T.out.get 0 rfl) Zqg (by rw[HVL.out];exact Zim) rfl rfl rfl ?_)
 |(go_at_call 34;refine(P1.out _ _ _ T.out).mono ?_;rintro e wn ⟨rfl,tn⟩;have T:=Hh tn;clear tn)
 |(go_at_call 55;refine(qTextE T.out HB.out).mono ?_;rintro e wn ⟨rfl,bn⟩;have B:=Hh (T.out.below.trans bn);clear bn))
 go_ret;exact⟨rfl,B.out⟩
theorem tFile(w:World)(N:Nat→Prop)(f:Fi)(hv:VFi f)(vs:List Value)(hd:Zt N w f.ds vs)(hr:Zkx f≤10000000000) :
  Calls Φ 11 #[.agg vs.toArray] w fun e y=>e=η (Ψ (strOfNums (lFi f)))∧Below w.heap.size w y:=by
 have hby:∀ x ∈ (fileT ([],false) f).1,0≤x∧x<256:=by
  have fold:∀{α:Type}(k:α→List ByteArray)(l:List α)(s:List Int×Bool),(∀ x ∈ s.1,0≤x∧x<256)→∀ x ∈ (l.foldl (Zhu k) s).1,0≤x∧x<256:=fun k l=>by
   induction l with
   |nil=>intro s h;exact h
   |cons y l ih=>
    intro s h;refine ih _ fun x hx=>?_
    rcases List.mem_append.1 hx with hx | hx
    ·exact Zfy (k y) s h x hx
    ·cases List.mem_singleton.1 hx;decide
  exact fold kPl _ _ (fold kCa _ _ (by simp))
 have e:=fileT_is hv;have F1:=Hh (fun x (hb:Below w.heap.size w x)=>formFileT x vs hd.len _ (fun b own y hy=>pFile x N f hv vs (hd.below hb) b ([],false) own y hy (by show 0+_≤_;omega)) hby);rw[e]at F1;have HVL:=Hh hd.len;clear hr hby e;have T:=Hh (Env.start w);go_enter Tryz.func11,Tryz.ntmps11;go_wp2_with(first
 |((with_reducible refine Zd 1 ?_);refine Zk T.out 26 _ vs rfl rfl rfl ?_;intro wn g0 tn;have T:=Hh tn;clear tn)
 |((with_reducible refine Zd 3 ?_);refine Zb 26 _ 26 g0 vs (T.out.get 0 rfl) Zqg (by rw[HVL.out];exact Zim) rfl rfl rfl ?_)
 |(go_at_call 33;refine(F1.out _ T.out.below).mono ?_;rintro e wn ⟨rfl,bn⟩;have T:=Hh (T.out.call bn);clear bn))
 go_ret;exact⟨rfl,T.out.below⟩
theorem puts_at{k:List ByteArray}{l:List Int}(h:Uz k l):(Zs ([],false) k).1=l:=by rw[h];simp[sp]
theorem puts_size{k:List ByteArray}{l:List Int}(h:Uz k l):l.length≤Vc k:=by
 have:=Zlp k ([],false);rw[puts_at h]at this;simpa using this
theorem lFi_len{f:Fi}(hv:VFi f):(lFi f).length≤Zkx f:=by
 have e:=fileT_is hv;have h1:=Znv kPl f.places (f.cards.foldl (Zhu kCa) ([],false));have h2:=Znv kCa f.cards ([],false);have e1:(fileT ([],false) f).1=lFi f:=by rw[e]
 rw[←e1];unfold fileT Zkx;unfold Zht at h1 h2;simp only[List.length_nil]at h2;omega
def l12T:ByteArray:=⟨#[49,32,45,32,40,50,32,45,32,51,41,32,42,32,40,52,41]⟩
def l12E:Ex:=.bin 2 (.leaf 1 1 zSe 0 0 0) (.bin 3 (.bin 2 (.leaf 1 2 zSe 0 0 0) (.leaf 1 3 zSe 0 0 0)) (.leaf 1 4 zSe 0 0 0))
theorem l12_is:exprP 5 l12T=(l12E,okF):=by kernel_rfl
theorem l12_text:strOfNums (Zs ([],false) (kEx l12E)).1=⟨#[49,32,45,32,40,50,32,45,32,51,41,32,42,32,52]⟩:=by kernel_rfl
theorem Znw(n:Int)(h1 : -99≤n)(h2:n≤99):VEx (.leaf 1 n zSe 0 0 0):=.inl ⟨rfl,⟨h1,h2⟩,rfl,rfl,rfl,rfl⟩
theorem l12_val:VEx l12E:=⟨by decide,Znw 1 (by decide) (by decide),by decide,⟨by decide,Znw 2 (by decide) (by decide),Znw 3 (by decide) (by decide)⟩,Znw 4 (by decide) (by decide)⟩
theorem tExE(w:World)(N:Nat→Prop)(vs:List Value)(hd:Zt N w l12E.ds vs) :
  Calls Φ 17 #[.agg vs.toArray] w fun e y=>e=η (Ψ ⟨#[49,32,45,32,40,50,32,45,32,51,41,32,42,32,52]⟩)∧Below w.heap.size w y:=by
 have h:=topExpr w vs hd.len (kEx l12E) (fun x hb=>pEx x N l12E l12_val vs (hd.below hb)) (by unfold Yw;decide +kernel) (by decide +kernel);rw[l12_text]at h;exact h
theorem whole12B{w:World}{g:Nat}{t:TypeId}{a0 a1 a2 a3 a4 a5 a6 a7 a8 a9 a10 a11:Value}(W:Ze w g t [a0,a1,a2,a3,a4,a5,a6,a7,a8,a9,a10,a11].toArray) :
  w.cell? ⟨g,0,none⟩=some a0∧w.cell? ⟨g,1,none⟩=some a1∧w.cell? ⟨g,2,none⟩=some a2∧w.cell? ⟨g,3,none⟩=some a3∧w.cell? ⟨g,4,none⟩=some a4∧w.cell? ⟨g,5,none⟩=some a5∧w.cell? ⟨g,6,none⟩=some a6∧w.cell? ⟨g,7,none⟩=some a7∧w.cell? ⟨g,8,none⟩=some a8∧w.cell? ⟨g,9,none⟩=some a9∧w.cell? ⟨g,10,none⟩=some a10∧w.cell? ⟨g,11,none⟩=some a11:=
 ⟨W.read 0,W.read 1,W.read 2,W.read 3,W.read 4,W.read 5,W.read 6,W.read 7,W.read 8,W.read 9,W.read 10,W.read 11⟩
theorem z_exB:(Tryz.prog.info? 54).map (fun i=>i.zero.map Value.cells)=some (some ([I J 0,I J 0,I J 0,I J 0,I J 0,I J 0,Λ none 0 0,I J 0,I J 0,I J 0,I J 0,Λ none 0 0]:List Value).toArray):=by kernel_rfl
theorem z_faB:(Tryz.prog.info? 29).map (fun i=>i.zero.map Value.cells)=some (some ([I J 0,I J 0,I J 0]:List Value).toArray):=by kernel_rfl
theorem s_faB:(Tryz.prog.info? 29).map (·.size)=some 3:=by kernel_rfl
theorem lives12(w:World):Calls Φ 5 #[] w fun e w'=>e=η (.bool true)∧Below w.heap.size w w':=by
 have hx:∀ x,Calls Φ 16 #[Ψ ⟨#[49,32,45,32,40,50,32,45,32,51,41,32,42,32,40,52,41]⟩] x (fun e w'=>∃ v0 v1 v2 v3 v4 v5 v6 v7 v8 v9 v10 v11:Value,e=η (.tuple #[.agg #[v0,v1,v2,v3,v4,v5,v6,v7,v8,v9,v10,v11],.agg #[I J 0,I J 0,I J 0]]) ∧
   Hid (∀ v ∈ [v0,v1,v2,v3,v4,v5,v6,v7,v8,v9,v10,v11],v.oneCell'=true)∧Zt (fun k=>x.heap.size≤k) w' l12E.ds [v0,v1,v2,v3,v4,v5,v6,v7,v8,v9,v10,v11]∧Below x.heap.size x w'):=fun x=>by
  have h:=xExpr l12T x (by decide);rw[l12_is]at h;refine h.mono ?_;rintro e y ⟨vs,rfl,d,b⟩;obtain⟨v0,v1,v2,v3,v4,v5,v6,v7,v8,v9,v10,v11,rfl⟩:=Zdf vs d.len;exact⟨v0,v1,v2,v3,v4,v5,v6,v7,v8,v9,v10,v11,rfl,Hh d.one,d,b⟩
 have T:=Hh (Env.start w);go_enter Tryz.func5,Tryz.ntmps5;go_wp2_with(first
 |(go_at_call 16;refine(hx _).mono ?_;rintro e wn ⟨v0,v1,v2,v3,v4,v5,v6,v7,v8,v9,v10,v11,rfl,ho,d,bn⟩;have T:=Hh (T.out.tree bn d);clear bn d)
 |((with_reducible refine Zd 1 ?_);refine Zc T.out 54 _ rfl rfl z_exB ?_;intro wn g1 tn;have T:=Hh tn;clear tn)
 |((with_reducible refine Zd 2 ?_);refine Zc T.out 29 _ rfl rfl z_faB ?_;intro wn g2 tn;have T:=Hh tn;clear tn)
 |((with_reducible refine Zi 1 5 ?_);refine Za 54 _ _ 54 g1 _ ([v0,v1,v2,v3,v4,v5,v6,v7,v8,v9,v10,v11]) (T.out.get 0 rfl) rfl Yz ho.out rfl rfl rfl rfl rfl ?_;intro wn p;have T:=Hh (T.out.put 0 rfl p);clear p)
 |((with_reducible refine Zi 2 6 ?_);refine Za 29 _ _ 29 g2 _ ([I J 0,I J 0,I J 0]) (T.out.get 1 rfl) rfl s_faB (by simp[Γ]) rfl rfl rfl rfl rfl ?_;intro wn p;have T:=Hh (T.out.put 1 rfl p);clear p;have c1_0:=T.out.cell 1 0 rfl rfl;obtain⟨c0,c1,c2,c3,c4,c5,c6,c7,c8,c9,c10,c11⟩:=whole12B (T.out.get 0 rfl))
 |(go_at_call 17;refine(tExE _ _ _ (T.out.leaf 0 rfl)).mono ?_;rintro e wn ⟨rfl,bn⟩;have T:=Hh (T.out.call bn);clear bn))
 go_ret;exact⟨rfl,T.out.below⟩
theorem z_ru:(Tryz.prog.info? 46).map (fun i=>i.zero.map Value.cells)=some (some ([I J 0,I J 0,I J 0,I J 0,Λ none 0 0]:List Value).toArray):=by kernel_rfl
theorem z_fi:(Tryz.prog.info? 26).map (fun i=>i.zero.map Value.cells)=some (some ([Λ none 0 0,Λ none 0 0]:List Value).toArray):=by kernel_rfl
theorem z_ca:(Tryz.prog.info? 35).map (fun i=>i.zero.map Value.cells)=some (some ([Ψ ⟨#[]⟩,I J 0,I J 0,I J 0,I J 0,Λ none 0 0]:List Value).toArray):=by kernel_rfl
theorem qSigned(w:World)(r K:Nat)(L:List TokV)(n a d:Nat)(hn:n=L.length)(h:Zaf w r K L)(ha:a<L.length) :
  Calls Φ 52 #[qA r K n a d] w fun e w'=>e=η (.tuple #[qA r K n (Zem L a) d,I J (Zkc L a),Zq (Zbp L a)])∧Below w.heap.size w w':=by
 have T0:=Hh (Tri.start w 64 #[Λ (some ⟨r,0,none⟩) n K,I J (a:Int),I J (d:Int)] 64 #[Λ none 0 0,I J 0,I J 0] 29 #[I J 0,I J 0,I J 0]);have hrow:∀ x,Below w.heap.size w x→Zaf x r K L:=fun x hb=>h.below hb
 have HR:=Hh hrow;have hi:=qIs _ r K L n a d Znt hn (hrow _ T0.out.below) ha;have hOn:=fun w h=>qOn w r K L n a d hn h ha
 have hIn:=fun w h=>qInt w r K L n a d hn h ha
 have hIn2:=fun w h=>qInt w r K L n (onA L a) d hn h (h.ends.on ha)
 have hnum:=h.ends.num (onA L a);clear hn h ha hrow;unfold Zem Zkc Zbp;unfold Znt at hi ⊢;unfold qA at hi hOn hIn hIn2 ⊢;cases hb:isT (Zx L a) ⟨#[45]⟩
 ·rw[hb]at hi
  rw[if_neg (by decide),if_neg (by decide),if_neg (by decide)];generalize Wl L a 2=f at *;generalize Zkh L a=m at *;generalize Vz L a 2=b at *;have HI:=Hh hIn;clear hb hOn hIn hIn2;obtain⟨f1,f2,f3⟩:=f;go_enter Tryz.func52,Tryz.ntmps52;go_wp2_with(first
 |(go_at_call 47;refine hi.mono ?_;rintro e w2 ⟨rfl,b2⟩;have T2:=Hh (T0.out.next b2);obtain⟨c0,c1,c2,y0,y1,y2⟩:=Yc T2.out.k0;clear b2)
 |(go_at_call 50;refine(HI.out _ (HR.out _ T2.out.below)).mono ?_;rintro e w3 ⟨rfl,b3⟩;have T3:=Hh (T2.out.next b3);obtain⟨d0,d1,d2,e0,e1,e2⟩:=Yc T3.out.k1;obtain⟨g0,g1,g2,z0,z1,z2⟩:=Yc T3.out.k2;have hz:=T3.out.k2.inside;clear b3;simp only[Zq]))
  obtain⟨hS1,hS2,hB⟩:=Zgn T3.out (Λ (some ⟨r,0,none⟩) n K) (I J (b:Int)) (I J (d:Int)) (I J f1) (I J (f2:Int)) (I J (f3:Int));have hF:=Yc hS1;have hG:=Yc hS2;refine bodyPost_ret (v:=.tuple #[qA r K n b d,I J m,Zq (f1,f2,f3)]) (by simp[results,Tryz.results52,go_sem,hF,hG,Zq,qA]) rfl ⟨rfl,hB⟩
 ·rw[hb]at hi
  rw[if_pos rfl,if_pos rfl,if_pos rfl];clear hb hIn;generalize onA L a=b at *;have hk:Vz L b 2=if(Zx L b).k=2 then onA L b else b:=rfl
  have hv:Zkh L b=if(Zx L b).k=2 then(Zx L b).n else 0:=rfl
  have hf:Wl L b 2=if(Zx L b).k=2 then okF else wrF (Zx L b):=rfl
  rw[hf];by_cases h2:(Zx L b).k=2
  · rw[if_pos h2]at hk hv hf ⊢
    rw[if_pos h2,if_pos h2];rw[hk,hv,hf]at hIn2;clear hk hv hf h2;generalize(Zx L b).n=m at *;generalize onA L b=b2 at *;obtain⟨m0,m9⟩:=hnum;have HI:=Hh hIn2;have HO:=Hh hOn;clear hOn hIn2;go_enter Tryz.func52,Tryz.ntmps52;go_wp2_with(first
 |(go_at_call 47;refine hi.mono ?_;rintro e w2 ⟨rfl,b2⟩;have T2:=Hh (T0.out.next b2);obtain⟨c0,c1,c2,y0,y1,y2⟩:=Yc T2.out.k0;clear b2)
 |(go_at_call 48;refine(HO.out _ (HR.out _ T2.out.below)).mono ?_;rintro e w3 ⟨rfl,b3⟩;have T3:=Hh (T2.out.next b3);clear b3)
 |(go_at_call 50;refine(HI.out _ (HR.out _ T3.out.below)).mono ?_;rintro e w4 ⟨rfl,b4⟩;have T4:=Hh (T3.out.next b4);obtain⟨d0,d1,d2,e0,e1,e2⟩:=Yc T4.out.k1;obtain⟨g0,g1,g2,z0,z1,z2⟩:=Yc T4.out.k2;have hz:=T4.out.k2.inside;have hz1:=T4.out.k1.inside;have hz0:=T4.out.k0.inside;clear b4;simp only[Zq,okF]))
    go_region
    all_goals
     go_wp2
     obtain⟨hS1,hS2,hB⟩:=Zgn T4.out (Λ (some ⟨r,0,none⟩) n K) (I J (b2:Int)) (I J (d:Int)) (I J 0) (I J 0) (I J 0);have hF:=Yc (((hS1.alloc (.cells #[Λ (some ⟨r,0,none⟩) n K,I J (b2:Int),I J (d:Int)] 64)).alloc (.cells #[I J 0,I J 0,I J 0] 29)).drew);have hG:=Yc (((hS2.alloc (.cells #[Λ (some ⟨r,0,none⟩) n K,I J (b2:Int),I J (d:Int)] 64)).alloc (.cells #[I J 0,I J 0,I J 0] 29)).drew);refine bodyPost_ret (v:=.tuple #[qA r K n b2 d,I J (-m),Zq okF]) (by simp[results,Tryz.results52,go_sem,hF,hG,Zq,okF,qA]) rfl ⟨rfl,?_⟩;exact Wm ((hB.alloc hB.size _).alloc (by have:=hB.size;simp at this ⊢;omega) _)
  · rw[if_neg h2]at hk hv hf ⊢
    rw[if_neg h2,if_neg h2];rw[hk,hv,hf]at hIn2;have hne:=Zid (Zx L b);clear hk hv hf h2;generalize wrF (Zx L b)=f at *;obtain⟨f1,f2,f3⟩:=f;have q0:(f1 != 0)=true:=by rw[bne_iff_ne];exact hne
    have HI:=Hh hIn2;have HO:=Hh hOn;clear hOn hIn2 hnum hne;go_enter Tryz.func52,Tryz.ntmps52;go_wp2_with(first
 |(go_at_call 47;refine hi.mono ?_;rintro e w2 ⟨rfl,b2⟩;have T2:=Hh (T0.out.next b2);obtain⟨c0,c1,c2,y0,y1,y2⟩:=Yc T2.out.k0;clear b2)
 |(go_at_call 48;refine(HO.out _ (HR.out _ T2.out.below)).mono ?_;rintro e w3 ⟨rfl,b3⟩;have T3:=Hh (T2.out.next b3);clear b3)
 |(go_at_call 50;refine(HI.out _ (HR.out _ T3.out.below)).mono ?_;rintro e w4 ⟨rfl,b4⟩;have T4:=Hh (T3.out.next b4);obtain⟨c0,c1,c2,y0,y1,y2⟩:=Yc T4.out.k0;obtain⟨d0,d1,d2,e0,e1,e2⟩:=Yc T4.out.k1;obtain⟨g0,g1,g2,z0,z1,z2⟩:=Yc T4.out.k2;have hz:=T4.out.k2.inside;have hz1:=T4.out.k1.inside;have hz0:=T4.out.k0.inside;clear b4;simp only[Zq]))
    go_region
    all_goals
     go_wp2
     obtain⟨hS1,hS2,hB⟩:=Zgn T4.out (Λ (some ⟨r,0,none⟩) n K) (I J (a:Int)) (I J (d:Int)) (I J f1) (I J (f2:Int)) (I J (f3:Int));have hF:=Yc (((hS1.alloc (.cells #[Λ (some ⟨r,0,none⟩) n K,I J (b:Int),I J (d:Int)] 64)).alloc (.cells #[I J f1,I J (f2:Int),I J (f3:Int)] 29)).drew);have hG:=Yc (((hS2.alloc (.cells #[Λ (some ⟨r,0,none⟩) n K,I J (b:Int),I J (d:Int)] 64)).alloc (.cells #[I J f1,I J (f2:Int),I J (f3:Int)] 29)).drew);refine bodyPost_ret (v:=.tuple #[qA r K n a d,I J 0,Zq (f1,f2,f3)]) (by simp[results,Tryz.results52,go_sem,hF,hG,Zq,okF,qA]) rfl ⟨rfl,?_⟩;exact Wm ((hB.alloc hB.size _).alloc (by have:=hB.size;simp at this ⊢;omega) _)
theorem Tri.set2{w x:World}{t u v:TypeId}{cs ds es:Array Value}(h:Tri w t cs u ds v es x)(y:Value):Tri w t (cs.setIfInBounds 2 y) u ds v es (x.setCell ⟨w.heap.size,2,none⟩ y):=
 ⟨h.k0.write 2 y,h.k1.aside (by simp) y,h.k2.aside (by simp) y,h.below.setCell (Θ _) y⟩
theorem duo_set{w y:World}{t u:TypeId}{a b c d e f:Value}(h:Two w t #[a,b,c] u #[d,e,f] y)(x0 x1 x2 y0 y1 y2:Value) :
  Ze ((((((y.setCell ⟨w.heap.size,0,none⟩ x0).setCell ⟨w.heap.size,1,none⟩ x1).setCell ⟨w.heap.size,2,none⟩ x2).setCell ⟨w.heap.size+1,0,none⟩ y0).setCell ⟨w.heap.size+1,1,none⟩ y1).setCell ⟨w.heap.size+1,2,none⟩ y2) w.heap.size t #[x0,x1,x2] ∧
  Ze ((((((y.setCell ⟨w.heap.size,0,none⟩ x0).setCell ⟨w.heap.size,1,none⟩ x1).setCell ⟨w.heap.size,2,none⟩ x2).setCell ⟨w.heap.size+1,0,none⟩ y0).setCell ⟨w.heap.size+1,1,none⟩ y1).setCell ⟨w.heap.size+1,2,none⟩ y2) (w.heap.size+1) u #[y0,y1,y2] ∧
  Below w.heap.size w ((((((y.setCell ⟨w.heap.size,0,none⟩ x0).setCell ⟨w.heap.size,1,none⟩ x1).setCell ⟨w.heap.size,2,none⟩ x2).setCell ⟨w.heap.size+1,0,none⟩ y0).setCell ⟨w.heap.size+1,1,none⟩ y1).setCell ⟨w.heap.size+1,2,none⟩ y2):=by
 have n1:w.heap.size≠w.heap.size+1:=by omega
 have n2:w.heap.size+1≠w.heap.size:=by omega
 exact⟨(((Ze.set3 h.k0 x0 x1 x2).aside n1 y0).aside n1 y1).aside n1 y2,Ze.set3 (((h.k1.aside n2 x0).aside n2 x1).aside n2 x2) y0 y1 y2,
  Below.set3 (Below.set3 h.below (by omega) _ _ _) (by omega) _ _ _⟩
theorem qDown(w:World)(r K:Nat)(L:List TokV)(n a d:Nat)(hn:n=L.length)(h:Zaf w r K L)(ha:a<L.length)(hd:d≤8) :
  Calls Φ 175 #[qA r K n a d] w fun e w'=>e=η (.tuple #[qA r K n a (Zdd d),Zq (Zab L a d)])∧Below w.heap.size w w':=by
 have T0:=Hh (Tri.start w 64 #[Λ (some ⟨r,0,none⟩) n K,I J (a:Int),I J (d:Int)] 64 #[Λ none 0 0,I J 0,I J 0] 29 #[I J 0,I J 0,I J 0]);have hi:=Zma _ r K L n a d hn (h.below T0.out.below) ha;clear hn h ha;unfold Zdd Zab;unfold qA at hi ⊢;generalize Zx L a=v at *;by_cases h8:d=8
 ·subst h8
  rw[if_pos rfl,if_pos rfl];clear hd;go_enter Tryz.func175,Tryz.ntmps175;go_wp2_with(go_at_call 19;refine hi.mono ?_;rintro e w4 ⟨rfl,b2⟩;have T4:=Hh (T0.out.next b2);obtain⟨c0,c1,c2,y0,y1,y2⟩:=Yc T4.out.k0;obtain⟨d0,d1,d2,e0,e1,e2⟩:=Yc T4.out.k1;obtain⟨g0,g1,g2,z0,z1,z2⟩:=Yc T4.out.k2;have hz:=T4.out.k2.inside;have hz1:=T4.out.k1.inside;have hz0:=T4.out.k0.inside;clear b2;simp only[Vt])
  go_region
  all_goals
   go_wp2
   obtain⟨hS1,hS2,hB⟩:=Zgn T4.out (Λ (some ⟨r,0,none⟩) n K) (I J (a:Int)) (I J 8) (I J 8) (I J (v.line:Int)) (I J (v.col:Int));have hF:=Yc ((hS1.alloc (.cells #[I J v.k,Ψ v.t,I J v.n,I J (v.line:Int),I J (v.col:Int)] 69)).drew);have hG:=Yc ((hS2.alloc (.cells #[I J v.k,Ψ v.t,I J v.n,I J (v.line:Int),I J (v.col:Int)] 69)).drew);refine bodyPost_ret (v:=.tuple #[qA r K n a 8,Zq (8,v.line,v.col)]) (by simp[results,Tryz.results175,go_sem,hF,hG,Zq,qA]) rfl ⟨rfl,?_⟩;exact Wm (hB.alloc hB.size _)
 ·rw[if_neg h8,if_neg h8]
  have l0:(d:Int)≤7:=by omega
  have e1:((d+1:Nat):Int)=(d:Int)+1:=by omega
  have E:=Hh e1;clear h8 hd e1;go_enter Tryz.func175,Tryz.ntmps175;go_wp2_with(go_at_call 19;refine hi.mono ?_;rintro e w4 ⟨rfl,b2⟩;have T4:=Hh (T0.out.next b2);obtain⟨c0,c1,c2,y0,y1,y2⟩:=Yc T4.out.k0;obtain⟨d0,d1,d2,e0,e1,e2⟩:=Yc T4.out.k1;obtain⟨g0,g1,g2,z0,z1,z2⟩:=Yc T4.out.k2;have hz:=T4.out.k2.inside;have hz1:=T4.out.k1.inside;have hz0:=T4.out.k0.inside;clear b2;simp only[Vt])
  obtain⟨hS1,hS2,hB⟩:=Zgn (T4.out.set2 (I J ((d:Int)+1))) (Λ (some ⟨r,0,none⟩) n K) (I J (a:Int)) (I J ((d:Int)+1)) (I J 0) (I J 0) (I J 0);have hF:=Yc (hS1.alloc (.cells #[I J v.k,Ψ v.t,I J v.n,I J (v.line:Int),I J (v.col:Int)] 69));have hG:=Yc (hS2.alloc (.cells #[I J v.k,Ψ v.t,I J v.n,I J (v.line:Int),I J (v.col:Int)] 69));refine bodyPost_ret (v:=.tuple #[qA r K n a (d+1),Zq okF]) (by simp[results,Tryz.results175,go_sem,hF,hG,Zq,okF,qA,E.out]) rfl ⟨rfl,?_⟩;exact hB.alloc hB.size _
def QNewPost(L:List TokV)(w:World)(e:Ending)(w':World):Prop:=
 ∃ r K,e=η (.tuple #[qA r K L.length 0 0,Zq okF])∧Zaf w' r K L∧w.heap.size≤r∧Below w.heap.size w w'
theorem qNew_err(s:ByteArray)(w:World)(hs:s.size≤1099511627776)(E:Int)(l c:Nat)(hv:Zdb s=([],E,l,c)) :
  Calls Φ 46 #[Ψ s] w fun e w'=>∃ A k,e=η (.tuple #[.agg #[Λ A 0 k,I J 0,I J 0],Zq (E,l,c)])∧Below w.heap.size w w':=by
 have HV:=Hh hv;have T0:=Hh (Two.start w 64 #[Λ none 0 0,I J 0,I J 0] 29 #[I J 0,I J 0,I J 0]);clear hv;go_enter Tryz.func46,Tryz.ntmps46;go_wp2_with(go_at_call 81;refine(rtScan s _ hs).mono ?_;rintro e w1 ⟨v,rfl,o1,b1⟩;rw[HV.out]at o1 ⊢;obtain⟨A1,c1,rfl,hl1,_⟩:=own5_reads o1;have T1:=Hh (T0.out.next b1);obtain⟨d0,d1,d2,e0,e1,e2⟩:=Yc T1.out.k0;obtain⟨g0,g1,g2,z0,z1,z2⟩:=Yc T1.out.k1;have hz:=T1.out.k1.inside;have hz0:=T1.out.k0.inside;clear o1 b1;simp only[Zq])
 go_region
 all_goals
  go_wp2
  obtain⟨hS1,hS2,hB⟩:=duo_set T1.out (Λ A1 0 c1) (I J 0) (I J 0) (I J E) (I J (l:Int)) (I J (c:Int));have hF:=Yc ((hS1.alloc (.cells #[I J E,I J (l:Int),I J (c:Int)] 29)).drew);have hG:=Yc ((hS2.alloc (.cells #[I J E,I J (l:Int),I J (c:Int)] 29)).drew);refine bodyPost_ret (v:=.tuple #[.agg #[Λ A1 0 c1,I J 0,I J 0],Zq (E,l,c)]) (by simp[results,Tryz.results46,go_sem,hF,hG,Zq]) rfl ⟨_,_,rfl,?_⟩;exact Wm (hB.alloc hB.size _)
theorem qNew_ok(s:ByteArray)(w:World)(hs:s.size≤1099511627776)(L:List TokV)(hv:Zdb s=(L,0,0,0))(hL:Zog L) :
  Calls Φ 46 #[Ψ s] w (QNewPost L w):=by
 have HV:=Hh hv;have T0:=Hh (Two.start w 64 #[Λ none 0 0,I J 0,I J 0] 29 #[I J 0,I J 0,I J 0]);have hpos:=hL.pos;have HL:=Hh hL;clear hv hL;go_enter Tryz.func46,Tryz.ntmps46;go_wp2_with(go_at_call 81;refine(rtScan s _ hs).mono ?_;rintro e w1 ⟨v,rfl,o1,b1⟩;rw[HV.out]at o1 ⊢;obtain⟨g,K,rfl,r1,r2,r3,r4,r5⟩:=own5_all o1 hpos;have R1:=Hh (Zaf.mk r5 r2 HL.out r3 r4);have T1:=Hh (T0.out.next b1);obtain⟨d0,d1,d2,e0,e1,e2⟩:=Yc T1.out.k0;obtain⟨g0,g1,g2,z0,z1,z2⟩:=Yc T1.out.k1;have hz:=T1.out.k1.inside;have hz0:=T1.out.k0.inside;clear o1 b1 r5;simp only[Zq])
 go_region
 all_goals
  go_wp2
  obtain⟨hS1,hS2,hB⟩:=duo_set T1.out (Λ (some ⟨g,0,none⟩) L.length K) (I J 0) (I J 0) (I J 0) (I J 0) (I J 0);have hF:=Yc ((hS1.alloc (.cells #[I J 0,I J 0,I J 0] 29)).drew);have hG:=Yc ((hS2.alloc (.cells #[I J 0,I J 0,I J 0] 29)).drew);have hgs:w.heap.size+2≤g:=by simpa using r1
  refine bodyPost_ret (v:=.tuple #[qA g K L.length 0 0,Zq okF]) (by simp[results,Tryz.results46,go_sem,hF,hG,Zq,okF,qA]) rfl ⟨g,K,rfl,?_,by omega,?_⟩
  ·exact R1.out.keeps (S:=fun k=>k<w.heap.size+2) ((((Zfn _ _ _ _ _).mono (by intro k hk;omega)).trans ((Zfn _ _ _ _ _).mono (by intro k hk;omega))).alloc _).drew (by omega)
  ·exact Wm (hB.alloc hB.size _)
open Go Go.RowKit
structure Ret2(w w':World)(g3 g4:Nat)(t3 t4:TypeId)(vs us:List Value):Prop where
 one:Ze w' g3 t3 vs.toArray
 two:Ze w' g4 t4 us.toArray
 keeps:Zy (fun k=>k=g3∨k=g4) w w'
theorem ret2{P:Program}{id:Nat}{Q:Exit→Act→World→Prop}{a:Act}{w:World}{o0 o1 o2 o3:Oper}(hm:P.follows .mixedOrders=true)
  (cs:Region.noSelect #[o0,o1,o2,o3]=true)(cf0:Region.free .any #[o0,o1,o2,o3] (Array.replicate 4 false) 0=true)(cr0:(Region.ready .any #[o0,o1,o2,o3] (Array.replicate 4 false)).contains 0=true)
  (cf1:Region.free .any #[o0,o1,o2,o3] ((Array.replicate 4 false).setIfInBounds 0 true) 1=true)(cr1:(Region.ready .any #[o0,o1,o2,o3] ((Array.replicate 4 false).setIfInBounds 0 true)).contains 1=true)
  (c2:Region.ready .any #[o0,o1,o2,o3] (((Array.replicate 4 false).setIfInBounds 0 true).setIfInBounds 1 true)=[2])
  (c3:Region.ready .any #[o0,o1,o2,o3] ((((Array.replicate 4 false).setIfInBounds 0 true).setIfInBounds 1 true).setIfInBounds 2 true)=[3])
  (c4:Region.ready .any #[o0,o1,o2,o3] (((((Array.replicate 4 false).setIfInBounds 0 true).setIfInBounds 1 true).setIfInBounds 2 true).setIfInBounds 3 true)=[])
  {T1 T2:TypeId}{x1 x2 y1 y2 z1 z2:Operand}(h0:o0.op=.load T1 x1)(h1:o1.op=.load T2 x2)(h2:o2.op=.store T1 y1 z1)(h3:o3.op=.store T2 y2 z2)
  (n0:o0.guard=none)(n1:o1.guard=none)(n2:o2.guard=none)(n3:o3.guard=none)(k2:o2.dst=none)(k3:o3.dst=none)
  (g1 g2 g3 g4:Nat){t1 t2 t3 t4:TypeId}(vs us old3 old4:List Value)(W1:Ze w g1 t1 vs.toArray)(W2:Ze w g2 t2 us.toArray)(W3:Ze w g3 t3 old3.toArray)(W4:Ze w g4 t4 old4.toArray)
  (hl3:vs.length=old3.length)(hl4:us.length=old4.length)(ho1:∀ v ∈ vs,v.oneCell'=true)(ho2:∀ v ∈ us,v.oneCell'=true)
  (d13:g1≠g3)(d14:g1≠g4)(d23:g2≠g3)(d24:g2≠g4)(d34:g3≠g4)
  (hu1:(P.underlying T1).map TypeDesc.isRow=some true)(hi1:(P.info? T1).map (·.size)=some vs.length)(hu2:(P.underlying T2).map TypeDesc.isRow=some true)(hi2:(P.info? T2).map (·.size)=some us.length)
  (e1:a.eval x1=Ω (some ⟨g1,0,none⟩))(e2:(a.put o0.dst (.agg vs.toArray)).eval x2=Ω (some ⟨g2,0,none⟩))
  (e3:((a.put o0.dst (.agg vs.toArray)).put o1.dst (.agg us.toArray)).eval y1=Ω (some ⟨g3,0,none⟩))(e4:((a.put o0.dst (.agg vs.toArray)).put o1.dst (.agg us.toArray)).eval z1=.agg vs.toArray)
  (e5:((a.put o0.dst (.agg vs.toArray)).put o1.dst (.agg us.toArray)).eval y2=Ω (some ⟨g4,0,none⟩))(e6:((a.put o0.dst (.agg vs.toArray)).put o1.dst (.agg us.toArray)).eval z2=.agg us.toArray)
  (h:∀ w',Ret2 w w' g3 g4 t3 t4 vs us→Q .normal ((a.put o0.dst (.agg vs.toArray)).put o1.dst (.agg us.toArray)) w'):(Code.region id #[o0,o1,o2,o3] true).wp P Q a w:=by
 obtain⟨d1,hu1,hr1⟩:=Option.map_eq_some_iff.1 hu1;obtain⟨d2,hu2,hr2⟩:=Option.map_eq_some_iff.1 hu2;refine wp_region_noPanic (wp_region_held_drew (S:=fun x=>Ze x g1 t1 vs.toArray∧Ze x g2 t2 us.toArray) hm ⟨W1.drew,W2.drew⟩ fun hS=>?_);have rg:∀{x:World}{g:Nat}{t:TypeId}{l:List Value},Ze x g t l.toArray→x.rangeAt g 0 l:=fun{x g t l} hx=>Ze.range (a:=[]) (b:=l) (c:=[]) (by simpa using hx)
 refine wpAnyH_take (i:=0) (oi:=o0) (v:=.agg vs.toArray) rfl cs cf0 cr0 (fun _ _ _ h=>h) (yieldsIf_load_mid (Jt n0) T1 x1 h0 g1 0 e1 vs d1 (fun x hx=>rg hx.1) hu1 hr1 hi1) hS ?_;refine wpAnyH_take (i:=1) (oi:=o1) (v:=.agg us.toArray) rfl cs cf1 cr1 (fun _ _ _ h=>h) (yieldsIf_load_mid (Jt n1) T2 x2 h1 g2 0 e2 us d2 (fun x hx=>rg hx.2) hu2 hr2 hi2) hS ?_;have th:∀{x:World}{g:Nat}{t:TypeId}{l:List Value},Ze x g t l.toArray→x.there g 0 l.length:=fun{x g t l} hx=>Ze.there (a:=[]) (b:=l) (c:=[]) (by simpa using hx)
 have p3:Ze (w.drew.setCells g3 0 vs) g3 t3 vs.toArray:=by
  have e:=Ze.setCells (g:=g3) (t:=t3) [] vs old3 [] w.drew hl3 (by simpa using W3.drew);simpa using e
 have k3':=Zy.setCells (S:=fun k=>k=g3) (g:=g3) rfl vs 0 (Zy.refl _ w.drew);have q4:Ze (w.drew.setCells g3 0 vs) g4 t4 old4.toArray:=k3'.whole W4.drew (Ne.symm d34)
 have p4:Ze ((w.drew.setCells g3 0 vs).setCells g4 0 us) g4 t4 us.toArray:=by
  have e:=Ze.setCells (g:=g4) (t:=t4) [] us old4 [] (w.drew.setCells g3 0 vs) hl4 (by simpa using q4);simpa using e
 have k4':=Zy.setCells (S:=fun k=>k=g4) (g:=g4) rfl us 0 (Zy.refl _ (w.drew.setCells g3 0 vs));refine wpAnyH_ready (rs:=[2]) c2 (by simp) (AllReadyH.cons (o:=o2) rfl (fun K hK=>?_) AllReadyH.nil);rw[if_pos (Jt n2)];refine wp_store_mid T1 y1 z1 h2 g3 0 vs.toArray e3 e4 (by rw[List.size_toArray,hl3];exact th W3.drew) (by simpa using hi1) (all_oneCell_toArray ho1) ?_;rw[k2];refine hK.out _ _ ⟨k3'.whole W1.drew d13,k3'.whole W2.drew d23⟩ fun hS3=>?_
 refine wpAnyH_ready (rs:=[3]) c3 (by simp) (AllReadyH.cons (o:=o3) rfl (fun K hK=>?_) AllReadyH.nil);rw[if_pos (Jt n3)];refine wp_store_mid T2 y2 z2 h3 g4 0 us.toArray e5 e6 (by rw[List.size_toArray,hl4];exact th q4) (by simpa using hi2) (all_oneCell_toArray ho2) ?_;rw[k3];refine hK.out _ _ ⟨k4'.whole (k3'.whole W1.drew d13) d14,k4'.whole (k3'.whole W2.drew d23) d24⟩ fun hS4=>?_
 refine wpAnyH_done c4 ?_ _;refine h _ ⟨k4'.whole p3 d34,p4,?_⟩;exact(Zy.drew (Zy.refl _ w)).trans ((k3'.mono fun k e=>.inl e).trans (k4'.mono fun k e=>.inr e))
def Zv(w:World)(r K:Nat)(L:List TokV):Prop:=0<L.length→Zaf w r K L
theorem Zv.below{w w':World}{r K:Nat}{L:List TokV}(h:Zv w r K L)(hb:Below w.heap.size w w'):Zv w' r K L:=fun hl=>(h hl).below hb
theorem Zv.put{x y:World}{r K:Nat}{L:List TokV}(h:Zv x r K L){g B:Nat}{t:TypeId}{vs:List Value}(p:Put x y g t vs)(hr:0<L.length→r<B)(hg:B≤g):Zv y r K L:=fun hl=>(h hl).keeps p.keeps (by have:=hr hl;omega)
theorem Zv.rin{w:World}{r K:Nat}{L:List TokV}(h:Zv w r K L):0<L.length→r<w.heap.size:=fun hl=>(h hl).rin
structure RPv(r K:Nat)(L:List TokV)(st:St)(vs:List Value):Prop where
 form:∃ A n k a d,vs=[Λ A n k,I J (a:Nat),I J (d:Nat),I J (Xd st).1,I J ((Xd st).2.1:Int),I J ((Xd st).2.2:Int)]∧d≤8 ∧
  ∀ a' d',st=.ok a' d'→A=some ⟨r,0,none⟩∧n=L.length∧k=K∧a=a'∧d=d'∧a'<L.length
 flt:∀ F,st=.bad F→F.1≠0
theorem RPv.ok{r K:Nat}{L:List TokV}{a d:Nat}{vs:List Value}(h:RPv r K L (.ok a d) vs):∃ n,n=L.length∧vs=[Λ (some ⟨r,0,none⟩) n K,I J (a:Int),I J (d:Int),I J 0,I J 0,I J 0]∧a<L.length∧d≤8:=by
 obtain⟨A,n,k,a',d',e,hd,hk⟩:=h.form;obtain⟨h1,h2,h3,h4,h5,h6⟩:=hk a d rfl;subst h1 h3 h4 h5;exact⟨n,h2,e,h6,hd⟩
theorem RPv.bad{r K:Nat}{L:List TokV}{F:Int×Nat×Nat}{vs:List Value}(h:RPv r K L (.bad F) vs):∃ A n k a d,vs=[Λ A n k,I J (a:Nat),I J (d:Nat),I J F.1,I J (F.2.1:Int),I J (F.2.2:Int)]∧d≤8∧F.1≠0:=by
 obtain⟨A,n,k,a',d',e,hd,_⟩:=h.form;exact⟨A,n,k,a',d',e,hd,h.flt F rfl⟩
theorem RPv.mkOk{r K:Nat}{L:List TokV}{a d n:Nat}(hn:n=L.length)(ha:a<L.length)(hd:d≤8):RPv r K L (.ok a d) [Λ (some ⟨r,0,none⟩) n K,I J (a:Int),I J (d:Int),I J 0,I J 0,I J 0]:=
 ⟨⟨_,_,_,_,_,rfl,hd,fun a' d' e=>by cases e;exact⟨rfl,hn,rfl,rfl,rfl,ha⟩⟩,fun F e=>by cases e⟩
theorem RPv.mkBad{r K:Nat}{L:List TokV}{F:Int×Nat×Nat}(A:Option Addr)(n k a d:Nat)(hd:d≤8)(hF:F.1≠0):RPv r K L (.bad F) [Λ A n k,I J (a:Int),I J (d:Int),I J F.1,I J (F.2.1:Int),I J (F.2.2:Int)]:=
 ⟨⟨_,_,_,_,_,rfl,hd,fun a' d' e=>by cases e⟩,fun F e=>by cases e;exact hF⟩
theorem RPv.len{r K:Nat}{L:List TokV}{st:St}{vs:List Value}(h:RPv r K L st vs):vs.length=6:=by
 obtain⟨A,n,k,a,d,e,_⟩:=h.form;rw[e];rfl
theorem RPv.one{r K:Nat}{L:List TokV}{st:St}{vs:List Value}(h:RPv r K L st vs):∀ v ∈ vs,v.oneCell'=true:=by
 obtain⟨A,n,k,a,d,e,_⟩:=h.form;rw[e];simp[Γ]
theorem RPv.six{r K:Nat}{L:List TokV}{st:St}{vs:List Value}(h:RPv r K L st vs):∃ c0 c1 c2,vs=[c0,c1,c2,I J (Xd st).1,I J ((Xd st).2.1:Int),I J ((Xd st).2.2:Int)]:=by
 obtain⟨A,n,k,a,d,e,_⟩:=h.form;exact⟨_,_,_,e⟩
theorem Zo:(Tryz.prog.underlying 66).map TypeDesc.isRow=some true:=by kernel_rfl
theorem Ye:(Tryz.prog.info? 66).map (·.size)=some 6:=by kernel_rfl
theorem Zf{vs:List Value}(h:vs.length=6):(Tryz.prog.info? 66).map (·.size)=some vs.length:=by rw[h];exact Ye
theorem Zco:(Tryz.prog.underlying 64).map TypeDesc.isRow=some true:=by kernel_rfl
theorem Vi:(Tryz.prog.info? 64).map (·.size)=some 3:=by kernel_rfl
def PPo(w:World)(r K:Nat)(L:List TokV)(st:St)(e:Ending)(w':World):Prop:=∃ vs:List Value,e=η (.agg vs.toArray)∧RPv r K L st vs∧Below w.heap.size w w'
def PVo(w:World)(r K:Nat)(L:List TokV)(st:St)(v:Value)(e:Ending)(w':World):Prop:=∃ vs:List Value,e=η (.tuple #[.agg vs.toArray,v])∧RPv r K L st vs∧Below w.heap.size w w'
theorem Xh{P:Program}{fn:Func}{R:Ending→World→Prop}{a:Act}{w:World}(s1 T1 s2:Nat)(t1:TypeId)(g1:Nat)(vs:List Value)(v:Value)(hres:fn.results=#[.cell s1 T1,.tmp s2])(h1:Ze w g1 t1 vs.toArray)
  (hu1:(P.underlying T1).map TypeDesc.isRow=some true)(hi1:(P.info? T1).map (·.size)=some vs.length)
  (hp1:a.tmps.getD s1 undef=Ω (some ⟨g1,0,none⟩))(hp2:a.tmps.getD s2 undef=v)(hd:a.defers=[])(hR:R (η (.tuple #[.agg vs.toArray,v])) w):bodyPost P fn R .ret a w:=by
 obtain⟨d1,hu1,hr1⟩:=Option.map_eq_some_iff.1 hu1;refine bodyPost_ret (v:=.tuple #[.agg vs.toArray,v]) ?_ hd hR;have hl1:=run_loadVar_mid (P:=P) w g1 0 T1 vs d1 (by have:=Ze.range (a:=[]) (b:=vs) (c:=[]) (by simpa using h1);exact this) hu1 hr1 hi1;have hp1':a.tmps[s1]?.getD undef=Ω (some ⟨g1,0,none⟩):=by simpa using hp1
 have hp2':a.tmps[s2]?.getD undef=v:=by simpa using hp2
 simp[results,hres,hp1',hp2',hl1,asAddr,Sem.run_bind,Sem.run_pure]
theorem qbad(w:World)(r K:Nat)(L:List TokV)(st:St)(vs:List Value)(ho:Zv w r K L)(hp:RPv r K L st vs) :
  Calls Φ 54 #[.agg vs.toArray] w (PPo w r K L (Zjb L st)):=by
 cases st with
 |ok a d=>
  obtain⟨n,hn,rfl,ha,hd⟩:=hp.ok;have hrow:=ho (by omega);have hrin:=ho.rin;have n1:=Zj w (.cells [Λ (some ⟨r,0,none⟩) n K,I J (a:Int),I J (d:Int),I J 0,I J 0,I J 0].toArray 66);have n2:=Zj (w.alloc (.cells [Λ (some ⟨r,0,none⟩) n K,I J (a:Int),I J (d:Int),I J 0,I J 0,I J 0].toArray 66)) (.cells #[Λ none 0 0,I J 0,I J 0,I J 0,I J 0,I J 0] 66);have X0:=Hh ((Ze.made w 66 [Λ (some ⟨r,0,none⟩) n K,I J (a:Int),I J (d:Int),I J 0,I J 0,I J 0].toArray).alloc (.cells #[Λ none 0 0,I J 0,I J 0,I J 0,I J 0,I J 0] 66));have R0:=Hh (show Ze ((w.alloc (.cells [Λ (some ⟨r,0,none⟩) n K,I J (a:Int),I J (d:Int),I J 0,I J 0,I J 0].toArray 66)).alloc (.cells #[Λ none 0 0,I J 0,I J 0,I J 0,I J 0,I J 0] 66)) (w.heap.size+1) 66 ([Λ none 0 0,I J 0,I J 0,I J 0,I J 0,I J 0]:List Value).toArray from by have e:=Ze.made (w.alloc (.cells [Λ (some ⟨r,0,none⟩) n K,I J (a:Int),I J (d:Int),I J 0,I J 0,I J 0].toArray 66)) 66 #[Λ none 0 0,I J 0,I J 0,I J 0,I J 0,I J 0];rw[World.size_alloc]at e;exact e);have B0:=Hh (Jm n1 n2);have O0:=Hh ((ho.below n1).below n2);have hz0:w.heap.size+2≤((w.alloc (.cells [Λ (some ⟨r,0,none⟩) n K,I J (a:Int),I J (d:Int),I J 0,I J 0,I J 0].toArray 66)).alloc (.cells #[Λ none 0 0,I J 0,I J 0,I J 0,I J 0,I J 0] 66)).heap.size:=by simp
  clear n1 n2;have hw:=Zid (Zx L a);have HW:=Hh hw;have HN:=Hh hn;clear hw ho hp hrow hn;go_enter Tryz.func54,Tryz.ntmps54;go_wp2_with(first
 |(go_at_call 82;refine(qWrong _ r K L n a d HN.out (O0.out (by omega)) ha).mono ?_;rintro e w1 ⟨rfl,b1⟩
   have X1:=Hh (X0.out.below b1 X0.out.inside);have R1:=Hh (R0.out.below b1 R0.out.inside);have B1:=Hh (bthen2 B0.out b1 (by first | omega | (simp;done) | (simp;omega)));have O1:=Hh (O0.out.below b1);have hz1:w.heap.size+2≤w1.heap.size:=by have:=b1.size;(try simp at this);omega
   simp only[Zq];clear b1 )
 |((with_reducible refine Zi 10 9 ?_);refine Xo 29 _ _ 66 (w.heap.size) 3 ([Λ (some ⟨r,0,none⟩) n K,I J (a:Int),I J (d:Int)]) ([I J 0,I J 0,I J 0]) ([]) ([I J (wrF (Zx L a)).1,I J ((wrF (Zx L a)).2.1:Int),I J ((wrF (Zx L a)).2.2:Int)]) (by first | exact X1.out | simpa using X1.out) rfl rfl Vh (by simp[Γ]) rfl rfl rfl rfl rfl ?_
   intro w2 p2;have X2:=Hh (show Ze w2 (w.heap.size) 66 (([Λ (some ⟨r,0,none⟩) n K,I J (a:Int),I J (d:Int)]:List Value)++([I J (wrF (Zx L a)).1,I J ((wrF (Zx L a)).2.1:Int),I J ((wrF (Zx L a)).2.2:Int)]:List Value)++([]:List Value)).toArray from by first | exact p2.whole | simpa using p2.whole);have R2:=Hh (p2.keeps.whole R1.out (by omega));have B2:=Hh (Zcy B1.out p2 (by omega) (by omega));have O2:=Hh (O1.out.put p2 hrin (by omega));have hz2:=Ξ hz1 p2.keeps.size;clear p2)
 |((with_reducible refine Zd 11 ?_);refine Zb 66 _ 66 (w.heap.size) _ X2.out Zo Ye rfl rfl rfl ?_)
 |((with_reducible refine Zi 2 11 ?_);refine Za 66 _ _ 66 (w.heap.size+1) _ ([Λ (some ⟨r,0,none⟩) n K,I J (a:Int),I J (d:Int),I J (wrF (Zx L a)).1,I J ((wrF (Zx L a)).2.1:Int),I J ((wrF (Zx L a)).2.2:Int)]) R2.out rfl Ye (by simp[Γ]) rfl rfl rfl rfl rfl ?_
   intro w3 p3;have R3:=Hh p3.whole;have X3:=Hh (p3.keeps.whole X2.out (by omega));have B3:=Hh (Zcy B2.out p3 (by omega) (by omega));have O3:=Hh (O2.out.put p3 hrin (by omega));have hz3:=Ξ hz2 p3.keeps.size;clear p3))
  exact Wu 2 66 66 _ _ rfl R3.out Zo Ye rfl rfl ⟨_,rfl,RPv.mkBad _ _ _ _ _ hd HW.out,B3.out⟩
 |bad F=>
  obtain⟨A,n,k,a,d,rfl,hd,hF⟩:=hp.bad;obtain⟨f0,f1,f2⟩:=F;have z0:(f0 == 0)=false:=by rw[beq_eq_false_iff_ne];exact hF
  have hrin:=ho.rin;have n1:=Zj w (.cells [Λ A n k,I J (a:Int),I J (d:Int),I J f0,I J (f1:Int),I J (f2:Int)].toArray 66);have n2:=Zj (w.alloc (.cells [Λ A n k,I J (a:Int),I J (d:Int),I J f0,I J (f1:Int),I J (f2:Int)].toArray 66)) (.cells #[Λ none 0 0,I J 0,I J 0,I J 0,I J 0,I J 0] 66);have X0:=Hh ((Ze.made w 66 [Λ A n k,I J (a:Int),I J (d:Int),I J f0,I J (f1:Int),I J (f2:Int)].toArray).alloc (.cells #[Λ none 0 0,I J 0,I J 0,I J 0,I J 0,I J 0] 66));have R0:=Hh (show Ze ((w.alloc (.cells [Λ A n k,I J (a:Int),I J (d:Int),I J f0,I J (f1:Int),I J (f2:Int)].toArray 66)).alloc (.cells #[Λ none 0 0,I J 0,I J 0,I J 0,I J 0,I J 0] 66)) (w.heap.size+1) 66 ([Λ none 0 0,I J 0,I J 0,I J 0,I J 0,I J 0]:List Value).toArray from by have e:=Ze.made (w.alloc (.cells [Λ A n k,I J (a:Int),I J (d:Int),I J f0,I J (f1:Int),I J (f2:Int)].toArray 66)) 66 #[Λ none 0 0,I J 0,I J 0,I J 0,I J 0,I J 0];rw[World.size_alloc]at e;exact e);have B0:=Hh (Jm n1 n2);have O0:=Hh ((ho.below n1).below n2);have hz0:w.heap.size+2≤((w.alloc (.cells [Λ A n k,I J (a:Int),I J (d:Int),I J f0,I J (f1:Int),I J (f2:Int)].toArray 66)).alloc (.cells #[Λ none 0 0,I J 0,I J 0,I J 0,I J 0,I J 0] 66)).heap.size:=by simp
  clear n1 n2;have HF:=Hh hF;clear ho hp hF;go_enter Tryz.func54,Tryz.ntmps54;go_wp2_with(first
 |((with_reducible refine Zd 11 ?_);refine Zb 66 _ 66 (w.heap.size) _ X0.out Zo Ye rfl rfl rfl ?_)
 |((with_reducible refine Zi 2 11 ?_);refine Za 66 _ _ 66 (w.heap.size+1) _ ([Λ A n k,I J (a:Int),I J (d:Int),I J f0,I J (f1:Int),I J (f2:Int)]) R0.out rfl Ye (by simp[Γ]) rfl rfl rfl rfl rfl ?_
   intro w1 p1;have R1:=Hh p1.whole;have X1:=Hh (p1.keeps.whole X0.out (by omega));have B1:=Hh (Zcy B0.out p1 (by omega) (by omega));have O1:=Hh (O0.out.put p1 hrin (by omega));have hz1:w.heap.size+2≤w1.heap.size:=by have:=p1.keeps.size;(try simp at this);omega
   clear p1))
  exact Wu 2 66 66 _ _ rfl R1.out Zo Ye rfl rfl ⟨_,rfl,RPv.mkBad (F:=(f0,f1,f2)) _ _ _ _ _ hd HF.out,B1.out⟩
structure Zgq(w:World)(xs rs:List Value)(x:World):Prop where
 box:Ze x w.heap.size 66 xs.toArray
 res:Ze x (w.heap.size+1) 66 rs.toArray
 below:Below w.heap.size w x
 size:w.heap.size+2≤x.heap.size
theorem Zgq.start(w:World)(xs rs:List Value):Zgq w xs rs ((w.alloc (.cells xs.toArray 66)).alloc (.cells rs.toArray 66)):=by
 refine⟨(Ze.made w _ xs.toArray).alloc _,?_,(Jm (Zj w _) (Zj _ _)),by simp⟩;have e:=Ze.made (w.alloc (.cells xs.toArray 66)) 66 rs.toArray;rw[World.size_alloc]at e;exact e
theorem Zgq.next{w x y:World}{xs rs:List Value}(h:Zgq w xs rs x)(b:Below x.heap.size x y):Zgq w xs rs y:=
 ⟨h.box.below b (by have:=h.size;omega),h.res.below b (by have:=h.size;omega),h.below.trans (b.mono (by have:=h.size;omega)),by have:=h.size;have:=b.size;omega⟩
theorem Zgq.drew{w x:World}{xs rs:List Value}(h:Zgq w xs rs x):Zgq w xs rs x.drew:=⟨h.box,h.res,Wm h.below,h.size⟩
theorem Zgq.drewN{w x:World}{xs rs:List Value}(h:Zgq w xs rs x)(n:Nat):Zgq w xs rs (x.drewN n):=⟨h.box,h.res,Zpu h.below n,h.size⟩
theorem Zgq.setB{w x y:World}{xs ys rs:List Value}(h:Zgq w xs rs x)(p:Put x y w.heap.size 66 ys):Zgq w ys rs y:=
 ⟨p.whole,p.keeps.whole h.res (by omega),Zcy h.below p (Θ _) (by have:=h.size;omega),by have:=h.size;have:=p.keeps.size;omega⟩
theorem Zgq.setR{w x y:World}{xs ys rs:List Value}(h:Zgq w xs rs x)(p:Put x y (w.heap.size+1) 66 ys):Zgq w xs ys y:=
 ⟨p.keeps.whole h.box (by omega),p.whole,Zcy h.below p (by omega) (by have:=h.size;omega),by have:=h.size;have:=p.keeps.size;omega⟩
theorem qmay(w:World)(r K:Nat)(L:List TokV)(st:St)(vs:List Value)(ws:List ByteArray)(g n m:Nat)(ho:Zv w r K L)(hp:RPv r K L st vs)(hw:Zpv w g ws)(hn:n=ws.length)(hl:n≤64) :
  Calls Φ 20 #[.agg vs.toArray,Λ (some ⟨g,0,none⟩) n m] w (PVo w r K L (Yd L ws st) (I J (Zh L ws st))):=by
 have l64:(n:Int)≤64:=by omega
 cases st with
 |bad F=>
  obtain⟨A,nb,kb,a,d,rfl,hd,hF⟩:=hp.bad;obtain⟨f0,f1,f2⟩:=F;have z0:(f0 == 0)=false:=by rw[beq_eq_false_iff_ne];exact hF
  have HF:=Hh hF;have T0:=Hh (Zgq.start w [Λ A nb kb,I J (a:Int),I J (d:Int),I J f0,I J (f1:Int),I J (f2:Int)] [Λ none 0 0,I J 0,I J 0,I J 0,I J 0,I J 0]);clear ho hp hF hw hn;go_enter Tryz.func20,Tryz.ntmps20;go_wp2
  go_loopw [6] (fun i wr=>i=I J 0∧Zgq w [Λ A nb kb,I J (a:Int),I J (d:Int),I J f0,I J (f1:Int),I J (f2:Int)] [Λ none 0 0,I J 0,I J 0,I J 0,I J 0,I J 0] wr) (fun i _=>0)
  case atStart=>exact⟨rfl,T0.out⟩
  case round=>
    obtain⟨rfl,hT⟩:=hrel;obtain⟨c0,c1,c2,c3,c4,c5⟩:=Wk hT.box;have T:=Hh hT;clear hT;go_wp2_with(first
 |((with_reducible refine Zd 33 ?_);refine Zb 66 _ 66 (w.heap.size) _ T.out.box Zo Ye rfl rfl rfl ?_)
 |((with_reducible refine Zi 4 33 ?_);refine Za 66 _ _ 66 (w.heap.size+1) _ [Λ A nb kb,I J (a:Int),I J (d:Int),I J f0,I J (f1:Int),I J (f2:Int)] T.out.res rfl Ye (by simp[Γ]) rfl rfl rfl rfl rfl ?_
   intro w1 p1;have T1:=Hh (T.out.setR p1)
   clear p1))
    all_goals exact Xh 4 66 5 66 _ _ _ rfl T1.out.res Zo Ye rfl rfl rfl ⟨_,rfl,RPv.mkBad (F:=(f0,f1,f2)) _ _ _ _ _ hd HF.out,T1.out.below⟩
 |ok a d=>
  obtain⟨nn,hnn,rfl,ha,hd⟩:=hp.ok;have hpos:0<L.length:=by omega
  have hrow:∀ x,Below w.heap.size w x→Zaf x r K L:=fun x hb=>(ho hpos).below hb
  have hon:=(ho hpos).ends.on ha;have hwx:∀ x,Below w.heap.size w x→Zpv x g ws:=fun x hb=>Ze.below hw hb hw.inside
  have HO:=Hh hrow;have HX:=Hh hwx;have HM:=Hh (ζ hnn (ζ ha (ζ hn (ζ hd hon))));have T0:=Hh (Zgq.start w [Λ (some ⟨r,0,none⟩) nn K,I J (a:Int),I J (d:Int),I J 0,I J 0,I J 0] [Λ none 0 0,I J 0,I J 0,I J 0,I J 0,I J 0]);clear ho hp hw hn hnn ha hpos hrow hwx hd hon;go_enter Tryz.func20,Tryz.ntmps20;go_wp2
  go_loopw [6] (fun i wr=>∃ k:Nat,i=I J k∧k≤n∧Zgq w [Λ (some ⟨r,0,none⟩) nn K,I J (a:Int),I J (d:Int),I J 0,I J 0,I J 0] [Λ none 0 0,I J 0,I J 0,I J 0,I J 0,I J 0] wr∧∀ j,j<k→isT (Zx L a) (ws.getD j ⟨#[]⟩)=false) (fun i _=>n - (intOf i).toNat)
  case atStart=>exact⟨0,by go_num,Nat.zero_le _,T0.out,fun j hj=>by omega⟩
  case round=>
    obtain⟨k,rfl,hk,hT,hj⟩:=hrel;obtain⟨c0,c1,c2,c3,c4,c5⟩:=Wk hT.box;have T:=Hh hT;have HJ:=Hh hj;obtain⟨M1,M2,M3,M4,M5⟩:=HM.out;have HW:=HX.out _ hT.below;by_cases hlt:k<n
    ·have hx:=HW.at_ (k:=k) (by omega)
     have hi:=HW.inside;generalize hv:isT (Zx L a) (ws.getD k ⟨#[]⟩)=b;have ht:∀ x,Zgq w [Λ (some ⟨r,0,none⟩) nn K,I J (a:Int),I J (d:Int),I J 0,I J 0,I J 0] [Λ none 0 0,I J 0,I J 0,I J 0,I J 0,I J 0] x→Calls Φ 47 #[.agg #[Λ (some ⟨r,0,none⟩) nn K,I J (a:Int),I J (d:Int)],Ψ (ws.getD k ⟨#[]⟩)] x (fun e w'=>e=η (.bool b)∧Below x.heap.size x w'):=fun x h=>by rw[←hv];exact qIs x r K L nn a d _ M1 (HO.out _ h.below) M2
     have HT:=Hh ht;generalize hX:ws.getD k ⟨#[]⟩=tx at *;have HV:=Hh hv;have HXx:=Hh hX;have hlt':(k:Int)<(n:Int):=by omega
     have e1:IntKind.i64.wrap ((k:Int)+1)=(k:Int)+1:=IntWalk.i64_in _ (by omega);have HK:=Hh (show k<ws.length by omega);have HE1:=Hh e1;clear hT hj HW hv hk ht hX M1 M2 M3 M4 M5 e1;cases b
     ·go_wp2
      go_region_with(go_at_call 47;refine(HT.out _ (by first | exact T.out.drew | exact T.out.drewN _ | exact T.out)).mono ?_;rintro e w1 ⟨rfl,b1⟩;have T1:=Hh ((by first | exact T.out.drew | exact T.out.drewN _ | exact T.out:Zgq w [Λ (some ⟨r,0,none⟩) nn K,I J (a:Int),I J (d:Int),I J 0,I J 0,I J 0] [Λ none 0 0,I J 0,I J 0,I J 0,I J 0,I J 0] _).next b1);clear b1)
      all_goals
       have hj:=HJ.out;have hk:=HK.out;have e1:=HE1.out;go_wp2
       go_roundw
       case rel=>
        refine⟨k+1,by go_num,by omega,T1.out,fun j hj'=>?_⟩;by_cases e:j=k
        ·subst e;rw[HXx.out];exact HV.out
        ·exact hj j (by omega)
       case measure=>simp[intOf];omega
     ·go_wp2
      go_region_with(go_at_call 47;refine(HT.out _ (by first | exact T.out.drew | exact T.out.drewN _ | exact T.out)).mono ?_;rintro e w1 ⟨rfl,b1⟩;have T1:=Hh ((by first | exact T.out.drew | exact T.out.drewN _ | exact T.out:Zgq w [Λ (some ⟨r,0,none⟩) nn K,I J (a:Int),I J (d:Int),I J 0,I J 0,I J 0] [Λ none 0 0,I J 0,I J 0,I J 0,I J 0,I J 0] _).next b1);clear b1;obtain⟨d0,d1,d2,d3,d4,d5⟩:=Wk T1.out.box)
      all_goals
       go_wp2_with(first
 |(go_at_call 48;refine(qOn _ r K L nn a d HM.out.1 (HO.out _ T1.out.below) HM.out.2.1).mono ?_;rintro e w2 ⟨rfl,b2⟩;have T2:=Hh (T1.out.next b2);clear b2)
 |((with_reducible refine Zi 29 28 ?_);refine Xo 64 _ _ 66 (w.heap.size) 0 [] [Λ (some ⟨r,0,none⟩) nn K,I J (a:Int),I J (d:Int)] [I J 0,I J 0,I J 0] [Λ (some ⟨r,0,none⟩) nn K,I J (onA L a:Int),I J (d:Int)] (by first | exact T2.out.box | simpa using T2.out.box) rfl rfl Vi (by simp[Γ]) rfl rfl rfl rfl rfl ?_
   intro w3 p3;have T3:=Hh (T2.out.setB (ys:=[Λ (some ⟨r,0,none⟩) nn K,I J (onA L a:Int),I J (d:Int),I J 0,I J 0,I J 0]) (by simpa using p3));clear p3)
 |((with_reducible refine Zd 30 ?_);refine Zb 66 _ 66 (w.heap.size) _ T3.out.box Zo Ye rfl rfl rfl ?_)
 |((with_reducible refine Zi 4 30 ?_);refine Za 66 _ _ 66 (w.heap.size+1) _ [Λ (some ⟨r,0,none⟩) nn K,I J (onA L a:Int),I J (d:Int),I J 0,I J 0,I J 0] T3.out.res rfl Ye (by simp[Γ]) rfl rfl rfl rfl rfl ?_
   intro w4 p4;have T4:=Hh (T3.out.setR p4)
   clear p4))
       refine Xh 4 66 5 66 _ _ _ rfl T4.out.res Zo Ye rfl rfl rfl ?_;obtain⟨M1,M2,M3,M4,M5⟩:=HM.out;have hf:=idx_hit (Zx L a) ws k HK.out HJ.out (by rw[HXx.out];exact HV.out);refine⟨[Λ (some ⟨r,0,none⟩) nn K,I J (onA L a:Int),I J (d:Int),I J 0,I J 0,I J 0],?_,?_,T4.out.below⟩
       ·show _=Ending.returned (.tuple #[_,I J (Zar (Zx L a) ws:Int)])
        rw[hf];rfl
       ·show RPv r K L (if Zar (Zx L a) ws=0 then _ else _) _
        rw[if_neg (by omega)];exact RPv.mkOk M1 M5 M4
    ·have e:=idx_miss (Zx L a) ws (fun j hj'=>hj j (by omega))
     have HE:=Hh e;have hge:(n:Int)≤(k:Int):=by omega
     clear hT hj HW hk M1 M2 M3 M4 M5 e;go_wp2_with(first
 |((with_reducible refine Zd 33 ?_);refine Zb 66 _ 66 (w.heap.size) _ T.out.box Zo Ye rfl rfl rfl ?_)
 |((with_reducible refine Zi 4 33 ?_);refine Za 66 _ _ 66 (w.heap.size+1) _ [Λ (some ⟨r,0,none⟩) nn K,I J (a:Int),I J (d:Int),I J 0,I J 0,I J 0] T.out.res rfl Ye (by simp[Γ]) rfl rfl rfl rfl rfl ?_
   intro w1 p1;have T1:=Hh (T.out.setR p1)
   clear p1))
     refine Xh 4 66 5 66 _ _ _ rfl T1.out.res Zo Ye rfl rfl rfl ?_;obtain⟨M1,M2,M3,M4,M5⟩:=HM.out;refine⟨[Λ (some ⟨r,0,none⟩) nn K,I J (a:Int),I J (d:Int),I J 0,I J 0,I J 0],?_,?_,T1.out.below⟩
     ·show _=Ending.returned (.tuple #[_,I J (Zar (Zx L a) ws:Int)])
      rw[HE.out];rfl
     ·show RPv r K L (if Zar (Zx L a) ws=0 then _ else _) _
      rw[if_pos HE.out];exact RPv.mkOk M1 M2 M4
open Go Go.RowKit Go.Great
section
variable {w x y:World} {bs:List Bk} {rs:List Rw} {ts:List (Ds×List Value)}
theorem Env.ret2(h:Env w bs rs ts x)(i j:Nat){g3 g4:Nat}{t3 t4:TypeId}{o3 o4 vs us:List Value}(hi:bs[i]?=some (g3,t3,o3))(hj:bs[j]?=some (g4,t4,o4))(p:Ret2 x y g3 g4 t3 t4 vs us) :
   (∀ u ∈ ts,Zt (fun k=>w.heap.size≤k) y u.1 u.2)∧Below w.heap.size w y:=
 ⟨fun u hu=>(h.deep u hu).keeps p.keeps fun k _ hn=>⟨fun e=>by
    rcases e with e | e
    ·exact hn.2.1 _ (List.mem_of_getElem? hi) e.symm
    ·exact hn.2.1 _ (List.mem_of_getElem? hj) e.symm,hn.1⟩,
   h.below.trans (p.keeps.below h.below.size fun k e=>by
    rcases e with e | e
    ·rw[e];exact h.lo _ (List.mem_of_getElem? hi)
    ·rw[e];exact h.lo _ (List.mem_of_getElem? hj))⟩
end
theorem z_P:(Tryz.prog.info? 66).map (fun i=>i.zero.map Value.cells)=some (some ([Λ none 0 0,I J 0,I J 0,I J 0,I J 0,I J 0]:List Value).toArray):=by kernel_rfl
theorem z_C:(Tryz.prog.info? 64).map (fun i=>i.zero.map Value.cells)=some (some ([Λ none 0 0,I J 0,I J 0]:List Value).toArray):=by kernel_rfl
theorem z_F:(Tryz.prog.info? 29).map (fun i=>i.zero.map Value.cells)=some (some ([I J 0,I J 0,I J 0]:List Value).toArray):=by kernel_rfl
theorem z_T:(Tryz.prog.info? 51).map (fun i=>i.zero.map Value.cells)=some (some ([I J 0,I J 0]:List Value).toArray):=by kernel_rfl
theorem Zno(w:World)(r K G:Nat)(L:List TokV)(st:St)(vs:List Value)(ws:List ByteArray)(n m:Nat)(cs:Array Value)(hcs:cs=(ws.map Value.string).toArray)(hG:G=w.heap.size)(ho:Zv w r K L)(hp:RPv r K L st vs)(hn:n=ws.length)(hl:n≤64) :
  Calls Φ 20 #[.agg vs.toArray,Λ (some ⟨G,0,none⟩) n m] (w.alloc (.cells cs 9)) (PVo w r K L (Yd L ws st) (I J (Zh L ws st))):=by
 subst hcs hG;have nb:=Zj w (.cells (ws.map Value.string).toArray 9);refine(qmay _ r K L st vs ws w.heap.size n m (ho.below nb) hp (Ze.made w _ _) hn hl).mono ?_;rintro e w' ⟨v,h1,h2,h3⟩;exact⟨v,h1,h2,Jm nb h3⟩
theorem qmust(w:World)(r K:Nat)(L:List TokV)(st:St)(vs:List Value)(ws:List ByteArray)(g n m:Nat)(ho:Zv w r K L)(hp:RPv r K L st vs)(hw:Zpv w g ws)(hn:n=ws.length)(hl:n≤64) :
  Calls Φ 51 #[.agg vs.toArray,Λ (some ⟨g,0,none⟩) n m] w (PVo w r K L (Zp L ws st) (I J (Zh L ws st))):=by
 have T0:=Hh (Env.start w);by_cases hz:Zh L ws st=0
 ·have e1:Zp L ws st=Zjb L (Yd L ws st):=by unfold Zp;rw[if_pos hz,Zah L hz]
  have e2:((Zh L ws st:Int) == 0)=true:=by rw[hz];rfl
  have e3:I J (Zh L ws st:Int)=I J 0:=by rw[hz];rfl
  have E1:=Hh e1;have E3:=Hh e3;have HZ:=Hh (ζ hw hn);clear e1 e3 hz hn;go_enter Tryz.func51,Tryz.ntmps51;go_wp2_with(first
 |((with_reducible refine Zd 2 ?_);refine Zk T0.out 66 _ (vs) rfl rfl rfl ?_;intro w1 g0 t1
   have T1:=Hh (t1);clear t1)
 |((with_reducible refine Zd 4 ?_);refine Zc T1.out 66 _ rfl rfl z_P ?_;intro w2 g1 t2
   have T2:=Hh (t2);clear t2)
 |((with_reducible refine Zd 9 ?_);refine Zb 66 _ 66 g0 _ (T2.out.get 0 rfl) Zo (Zf hp.len) rfl rfl rfl ?_)
 |(go_at_call 20;refine(qmay _ r K L st vs ws g n m (ho.below T2.out.below) hp (Ze.below HZ.out.1 T2.out.below HZ.out.1.inside) HZ.out.2 hl).mono ?_;rintro e w3 ⟨v3,rfl,h3,b3⟩
   have T3:=Hh (T2.out.call b3);clear b3)
 |((with_reducible refine Zd 6 ?_);refine Zc T3.out 66 _ rfl rfl z_P ?_;intro w4 g2 t4
   have T4:=Hh (t4);clear t4)
 |((with_reducible refine Zi 6 12 ?_);refine Za 66 _ _ 66 g2 _ (v3) (T4.out.get 2 rfl) h3.len (Zf h3.len) h3.one rfl rfl rfl rfl rfl ?_
   intro w5 p5;have T5:=Hh (T4.out.put 2 rfl p5);clear p5)
 |((with_reducible refine Zd 16 ?_);refine Zb 66 _ 66 g2 _ (T5.out.get 2 rfl) Zo (Zf h3.len) rfl rfl rfl ?_)
 |(go_at_call 54;refine(qbad _ r K L _ v3 (ho.below T5.out.below) h3).mono ?_;rintro e w6 ⟨v6,rfl,h6,b6⟩
   have T6:=Hh (T5.out.call b6);clear b6)
 |((with_reducible refine Zi 4 17 ?_);refine Za 66 _ _ 66 g1 _ (v6) (T6.out.get 1 rfl) h6.len (Zf h6.len) h6.one rfl rfl rfl rfl rfl ?_
   intro w7 p7;have T7:Hid (Env w [(g0,66,vs),(g1,66,v6),(g2,66,v3)] [] [] w7):=Hh (T6.out.put 1 rfl p7);clear p7))
  refine Xh 4 66 5 66 _ _ _ rfl (T7.out.get 1 rfl) Zo (Zf h6.len) rfl rfl rfl ?_;rw[E1.out,E3.out];exact⟨v6,rfl,h6,T7.out.below⟩
 ·have e1:Zp L ws st=Yd L ws st:=by unfold Zp;rw[if_neg hz]
  have e2:((Zh L ws st:Int) == 0)=false:=by rw[beq_eq_false_iff_ne];omega
  have E1:=Hh e1;have HZ:=Hh (ζ hw hn);clear e1 hz hn;go_enter Tryz.func51,Tryz.ntmps51;go_wp2_with(first
 |((with_reducible refine Zd 2 ?_);refine Zk T0.out 66 _ (vs) rfl rfl rfl ?_;intro w1 g0 t1
   have T1:=Hh (t1);clear t1)
 |((with_reducible refine Zd 4 ?_);refine Zc T1.out 66 _ rfl rfl z_P ?_;intro w2 g1 t2
   have T2:=Hh (t2);clear t2)
 |((with_reducible refine Zd 9 ?_);refine Zb 66 _ 66 g0 _ (T2.out.get 0 rfl) Zo (Zf hp.len) rfl rfl rfl ?_)
 |(go_at_call 20;refine(qmay _ r K L st vs ws g n m (ho.below T2.out.below) hp (Ze.below HZ.out.1 T2.out.below HZ.out.1.inside) HZ.out.2 hl).mono ?_;rintro e w3 ⟨v3,rfl,h3,b3⟩
   have T3:=Hh (T2.out.call b3);clear b3)
 |((with_reducible refine Zd 6 ?_);refine Zc T3.out 66 _ rfl rfl z_P ?_;intro w4 g2 t4
   have T4:=Hh (t4);clear t4)
 |((with_reducible refine Zi 6 12 ?_);refine Za 66 _ _ 66 g2 _ (v3) (T4.out.get 2 rfl) h3.len (Zf h3.len) h3.one rfl rfl rfl rfl rfl ?_
   intro w5 p5;have T5:=Hh (T4.out.put 2 rfl p5);clear p5)
 |((with_reducible refine Zd 18 ?_);refine Zb 66 _ 66 g2 _ (T5.out.get 2 rfl) Zo (Zf h3.len) rfl rfl rfl ?_)
 |((with_reducible refine Zi 4 18 ?_);refine Za 66 _ _ 66 g1 _ (v3) (T5.out.get 1 rfl) h3.len (Zf h3.len) h3.one rfl rfl rfl rfl rfl ?_
   intro w6 p6;have T6:Hid (Env w [(g0,66,vs),(g1,66,v3),(g2,66,v3)] [] [] w6):=Hh (T5.out.put 1 rfl p6);clear p6))
  refine Xh 4 66 5 66 _ _ _ rfl (T6.out.get 1 rfl) Zo (Zf h3.len) rfl rfl rfl ?_;rw[E1.out];exact⟨v3,rfl,h3,T6.out.below⟩
theorem Zgh(w:World)(r K G:Nat)(L:List TokV)(st:St)(vs:List Value)(ws:List ByteArray)(n m:Nat)(cs:Array Value)(hcs:cs=(ws.map Value.string).toArray)(hG:G=w.heap.size)(ho:Zv w r K L)(hp:RPv r K L st vs)(hn:n=ws.length)(hl:n≤64) :
  Calls Φ 51 #[.agg vs.toArray,Λ (some ⟨G,0,none⟩) n m] (w.alloc (.cells cs 9)) (PVo w r K L (Zp L ws st) (I J (Zh L ws st))):=by
 subst hcs hG;have nb:=Zj w (.cells (ws.map Value.string).toArray 9);refine(qmust _ r K L st vs ws w.heap.size n m (ho.below nb) hp (Ze.made w _ _) hn hl).mono ?_;rintro e w' ⟨v,h1,h2,h3⟩;exact⟨v,h1,h2,Jm nb h3⟩
theorem one_want(L:List TokV)(t:ByteArray)(st:St):Zp L [t] st=Yb L t st:=by
 cases st with
 |bad F=>rfl
 |ok a d=>
  unfold Zp Yb;show(if Zar (Zx L a) [t]=0 then _ else if Zar (Zx L a) [t]=0 then _ else _)=if isT (Zx L a) t=true then St.ok (Zck L a t) d else _
  unfold Zar Zar Zck;by_cases h:isT (Zx L a) t=true
  ·simp[h]
  ·simp[h]
theorem kindA_in{L:List TokV}(h:Zog L){a:Nat}(ha:a<L.length)(k:Int):Vz L a k<L.length:=by
 unfold Vz;split
 ·exact h.on ha
 ·exact ha
theorem signA_in{L:List TokV}(h:Zog L){a:Nat}(ha:a<L.length):Zem L a<L.length:=by
 unfold Zem;split
 ·split
  ·exact h.on (h.on ha)
  ·exact ha
 ·exact kindA_in h ha 2
theorem Znx(L:List TokV)(a:Nat)(k:Int)(h:(Wl L a k).1=0):Wl L a k=okF:=by
 unfold Wl at *;split
 ·rfl
 ·rename_i hk
  rw[if_neg hk]at h;exact absurd h (Zid _)
theorem signF_ok(L:List TokV)(a:Nat)(h:(Zbp L a).1=0):Zbp L a=okF:=by
 unfold Zbp at *;split
 ·rename_i hk
  rw[if_pos hk]at h;exact Znx _ _ _ h
 ·rename_i hk
  rw[if_neg hk]at h;exact Znx _ _ _ h
theorem downF_ok(L:List TokV)(a d:Nat)(h:(Zab L a d).1=0):Zab L a d=okF:=by
 unfold Zab at *;split
 ·rename_i hk
  rw[if_pos hk]at h;exact absurd h (by simp)
 ·rfl
theorem RPv.note{r K:Nat}{L:List TokV}{a d n:Nat}{F:Int×Nat×Nat}(hF:F.1=0→F=okF)(hn:n=L.length)(ha:a<L.length)(hd:d≤8) :
  RPv r K L (Jr F (.ok a d)) [Λ (some ⟨r,0,none⟩) n K,I J (a:Int),I J (d:Int),I J F.1,I J (F.2.1:Int),I J (F.2.2:Int)]:=by
 show RPv r K L (if F.1=0 then St.ok a d else .bad F) _;by_cases h:F.1=0
 ·rw[if_pos h,hF h]
  exact RPv.mkOk hn ha hd
 ·rw[if_neg h]
  exact RPv.mkBad _ _ _ _ _ hd h
theorem Env.ne{w x:World}{bs:List Bk}{rs:List Rw}{ts:List (Ds×List Value)}(h:Env w bs rs ts x)(i j:Nat)(hij:i≠j){b c:Bk}(hi:bs[i]?=some b)(hj:bs[j]?=some c):b.1≠c.1:=by
 obtain⟨h1,e1⟩:=List.getElem?_eq_some_iff.1 hi;obtain⟨h2,e2⟩:=List.getElem?_eq_some_iff.1 hj;have hp:=List.pairwise_iff_getElem.1 h.nod;have g1:(bs.map (·.1))[i]'(by simpa using h1)=b.1:=by simp[e1]
 have g2:(bs.map (·.1))[j]'(by simpa using h2)=c.1:=by simp[e2]
 intro e;rcases Nat.lt_trichotomy i j with q | q | q
 ·exact hp i j _ _ q (by rw[g1,g2,e])
 ·exact hij q
 ·exact hp j i _ _ q (by rw[g1,g2,e])
theorem Zan(w:World)(r K:Nat)(L:List TokV)(st:St)(vs:List Value)(t:ByteArray)(ho:Zv w r K L)(hp:RPv r K L st vs) :
  Calls Φ 23 #[.agg vs.toArray,Ψ t] w (PPo w r K L (Yb L t st)):=by
 have T0:=Hh (Env.start w);go_enter Tryz.func23,Tryz.ntmps23;go_wp2_with(first
 |((with_reducible refine Zd 2 ?_);refine Zk T0.out 66 _ (vs) rfl rfl rfl ?_;intro w1 g0 t1
   have T1:=Hh (t1);clear t1)
 |((with_reducible refine Zd 4 ?_);refine Zc T1.out 66 _ rfl rfl z_P ?_;intro w2 g1 t2
   have T2:=Hh (t2);clear t2)
 |((with_reducible refine Zd 8 ?_);refine Zb 66 _ 66 g0 _ (T2.out.get 0 rfl) Zo (Zf hp.len) rfl rfl rfl ?_)
 |(go_at_call 51;refine(Zgh _ r K _ L st vs [t] 1 1 _ rfl rfl (ho.below T2.out.below) hp rfl (by decide)).mono ?_;rintro e w3 ⟨v3,rfl,h3,b3⟩
   have T3:=Hh (T2.out.call b3);clear b3)
 |((with_reducible refine Zd 5 ?_);refine Zc T3.out 66 _ rfl rfl z_P ?_;intro w4 g2 t4
   have T4:=Hh (t4);clear t4)
 |((with_reducible refine Zi 5 12 ?_);refine Za 66 _ _ 66 g2 _ (v3) (T4.out.get 2 rfl) h3.len (Zf h3.len) h3.one rfl rfl rfl rfl rfl ?_
   intro w5 p5;have T5:=Hh (T4.out.put 2 rfl p5);clear p5)
 |((with_reducible refine Zd 14 ?_);refine Zb 66 _ 66 g2 _ (T5.out.get 2 rfl) Zo (Zf h3.len) rfl rfl rfl ?_)
 |((with_reducible refine Zi 4 14 ?_);refine Za 66 _ _ 66 g1 _ (v3) (T5.out.get 1 rfl) h3.len (Zf h3.len) h3.one rfl rfl rfl rfl rfl ?_
   intro w6 p6;have T6:Hid (Env w [(g0,66,vs),(g1,66,v3),(g2,66,v3)] [] [] w6):=Hh (T5.out.put 1 rfl p6);clear p6))
 refine Wu 4 66 66 _ _ rfl (T6.out.get 1 rfl) Zo (Zf h3.len) rfl rfl ?_;rw[←one_want];exact⟨v3,rfl,h3,T6.out.below⟩
theorem Zlz(w:World)(r K:Nat)(L:List TokV)(st:St)(vs:List Value)(ho:Zv w r K L)(hp:RPv r K L st vs) :
  Calls Φ 108 #[.agg vs.toArray] w (PVo w r K L (Zp L Zg st) (I J (Zh L Zg st))):=by
 have T0:=Hh (Env.start w);go_enter Tryz.func108,Tryz.ntmps108;go_wp2_with(first
 |((with_reducible refine Zd 1 ?_);refine Zk T0.out 66 _ (vs) rfl rfl rfl ?_;intro w1 g0 t1
   have T1:=Hh (t1);clear t1)
 |((with_reducible refine Zd 2 ?_);refine Zc T1.out 66 _ rfl rfl z_P ?_;intro w2 g1 t2
   have T2:=Hh (t2);clear t2)
 |((with_reducible refine Zd 4 ?_);refine Zb 66 _ 66 g0 _ (T2.out.get 0 rfl) Zo (Zf hp.len) rfl rfl rfl ?_)
 |(go_at_call 51;refine(Zgh _ r K _ L st vs Zg 3 3 _ rfl rfl (ho.below T2.out.below) hp rfl (by decide)).mono ?_;rintro e w3 ⟨v3,rfl,h3,b3⟩
   have T3:=Hh (T2.out.call b3);clear b3)
 |((with_reducible refine Zi 2 7 ?_);refine Za 66 _ _ 66 g1 _ (v3) (T3.out.get 1 rfl) h3.len (Zf h3.len) h3.one rfl rfl rfl rfl rfl ?_
   intro w4 p4;have T4:Hid (Env w [(g0,66,vs),(g1,66,v3)] [] [] w4):=Hh (T3.out.put 1 rfl p4);clear p4))
 exact Xh 2 66 3 66 _ _ _ rfl (T4.out.get 1 rfl) Zo (Zf h3.len) rfl rfl rfl ⟨v3,rfl,h3,T4.out.below⟩
theorem qop(w:World)(r K:Nat)(L:List TokV)(st:St)(vs:List Value)(ho:Zv w r K L)(hp:RPv r K L st vs) :
  Calls Φ 111 #[.agg vs.toArray] w (PVo w r K L (Zp L wOp st) (I J (Zh L wOp st))):=by
 have T0:=Hh (Env.start w);go_enter Tryz.func111,Tryz.ntmps111;go_wp2_with(first
 |((with_reducible refine Zd 1 ?_);refine Zk T0.out 66 _ (vs) rfl rfl rfl ?_;intro w1 g0 t1
   have T1:=Hh (t1);clear t1)
 |((with_reducible refine Zd 2 ?_);refine Zc T1.out 66 _ rfl rfl z_P ?_;intro w2 g1 t2
   have T2:=Hh (t2);clear t2)
 |((with_reducible refine Zd 4 ?_);refine Zb 66 _ 66 g0 _ (T2.out.get 0 rfl) Zo (Zf hp.len) rfl rfl rfl ?_)
 |(go_at_call 51;refine(Zgh _ r K _ L st vs wOp 6 6 _ rfl rfl (ho.below T2.out.below) hp rfl (by decide)).mono ?_;rintro e w3 ⟨v3,rfl,h3,b3⟩
   have T3:=Hh (T2.out.call b3);clear b3)
 |((with_reducible refine Zi 2 7 ?_);refine Za 66 _ _ 66 g1 _ (v3) (T3.out.get 1 rfl) h3.len (Zf h3.len) h3.one rfl rfl rfl rfl rfl ?_
   intro w4 p4;have T4:Hid (Env w [(g0,66,vs),(g1,66,v3)] [] [] w4):=Hh (T3.out.put 1 rfl p4);clear p4))
 exact Xh 2 66 3 66 _ _ _ rfl (T4.out.get 1 rfl) Zo (Zf h3.len) rfl rfl rfl ⟨v3,rfl,h3,T4.out.below⟩
theorem Zqh(w:World)(r K:Nat)(L:List TokV)(st:St)(vs:List Value)(ho:Zv w r K L)(hp:RPv r K L st vs) :
  Calls Φ 22 #[.agg vs.toArray] w (PVo w r K L (Zba L st) (I J (Zfe L st))):=by
 have T0:=Hh (Env.start w);cases st with
 |ok a d=>
  obtain⟨n,hn,rfl,ha,hd⟩:=hp.ok;have hrow:=ho (by omega);have HR:=Hh hrow;have HN:=Hh (ζ hn ha);clear ho hp hn;go_enter Tryz.func22,Tryz.ntmps22;go_wp2_with(first
 |((with_reducible refine Zd 1 ?_);refine Zk T0.out 66 _ ([Λ (some ⟨r,0,none⟩) n K,I J (a:Int),I J (d:Int),I J 0,I J 0,I J 0]) rfl rfl rfl ?_;intro w1 g0 t1
   have T1:=Hh (t1);clear t1)
 |((with_reducible refine Zd 2 ?_);refine Zc T1.out 66 _ rfl rfl z_P ?_;intro w2 g1 t2
   have T2:=Hh (t2);obtain⟨c0,c1,c2,c3,c4,c5⟩:=Wk (T2.out.get 0 rfl);clear t2)
 |((with_reducible refine Zd 14 ?_);refine Xx 64 _ 66 g0 0 ([]) ([Λ (some ⟨r,0,none⟩) n K,I J (a:Int),I J (d:Int)]) ([I J 0,I J 0,I J 0]) (T2.out.get 0 rfl) rfl Zco Vi rfl rfl rfl ?_)
 |(go_at_call 50;refine(qInt _ r K L n a d HN.out.1 (HR.out.below T2.out.below) HN.out.2).mono ?_;rintro e w3 ⟨rfl,b3⟩
   have T3:=Hh (T2.out.call b3);clear b3)
 |((with_reducible refine Zd 4 ?_);refine Zc T3.out 64 _ rfl rfl z_C ?_;intro w4 g2 t4
   have T4:=Hh (t4);clear t4)
 |((with_reducible refine Zd 6 ?_);refine Zc T4.out 29 _ rfl rfl z_F ?_;intro w5 g3 t5
   have T5:=Hh (t5);clear t5)
 |((with_reducible refine Zi 4 16 ?_);refine Za 64 _ _ 64 g2 _ ([Λ (some ⟨r,0,none⟩) n K,I J (Vz L a 2:Int),I J (d:Int)]) (T5.out.get 2 rfl) rfl Vi (by simp[Γ]) rfl rfl rfl rfl rfl ?_
   intro w6 p6;have T6:=Hh (T5.out.put 2 rfl p6);clear p6)
 |((with_reducible refine Zi 6 18 ?_);refine Za 29 _ _ 29 g3 _ ([I J (Wl L a 2).1,I J ((Wl L a 2).2.1:Int),I J ((Wl L a 2).2.2:Int)]) (T6.out.get 3 rfl) rfl Vh (by simp[Γ]) rfl rfl rfl rfl rfl ?_
   intro w7 p7;have T7:=Hh (T6.out.put 3 rfl p7);clear p7)
 |((with_reducible refine Zd 19 ?_);refine Zb 64 _ 64 g2 _ (T7.out.get 2 rfl) Zco Vi rfl rfl rfl ?_)
 |((with_reducible refine Zd 20 ?_);refine Zb 29 _ 29 g3 _ (T7.out.get 3 rfl) Zdg Vh rfl rfl rfl ?_)
 |((with_reducible refine Zi 2 21 ?_);refine Za 66 _ _ 66 g1 _ ([Λ (some ⟨r,0,none⟩) n K,I J (Vz L a 2:Int),I J (d:Int),I J (Wl L a 2).1,I J ((Wl L a 2).2.1:Int),I J ((Wl L a 2).2.2:Int)]) (T7.out.get 1 rfl) rfl Ye (by simp[Γ]) rfl rfl rfl rfl rfl ?_
   intro w8 p8;have T8:Hid (Env w [(g0,66,[Λ (some ⟨r,0,none⟩) n K,I J (a:Int),I J (d:Int),I J 0,I J 0,I J 0]),(g1,66,[Λ (some ⟨r,0,none⟩) n K,I J (Vz L a 2:Int),I J (d:Int),I J (Wl L a 2).1,I J ((Wl L a 2).2.1:Int),I J ((Wl L a 2).2.2:Int)]),(g2,64,[Λ (some ⟨r,0,none⟩) n K,I J (Vz L a 2:Int),I J (d:Int)]),(g3,29,[I J (Wl L a 2).1,I J ((Wl L a 2).2.1:Int),I J ((Wl L a 2).2.2:Int)])] [] [] w8):=Hh (T7.out.put 1 rfl p8);clear p8))
  exact Xh 2 66 3 66 _ _ _ rfl (T8.out.get 1 rfl) Zo Ye rfl rfl rfl ⟨_,rfl,RPv.note (Znx L a 2) HN.out.1 (kindA_in HR.out.ends HN.out.2 2) hd,T8.out.below⟩
 |bad F=>
  obtain⟨A,n,k,a,d,rfl,hd,hF⟩:=hp.bad;obtain⟨f0,f1,f2⟩:=F;have z0:(f0 != 0)=true:=by rw[bne_iff_ne];exact hF
  have HF:=Hh hF;clear ho hp hF;go_enter Tryz.func22,Tryz.ntmps22;go_wp2_with(first
 |((with_reducible refine Zd 1 ?_);refine Zk T0.out 66 _ ([Λ A n k,I J (a:Int),I J (d:Int),I J f0,I J (f1:Int),I J (f2:Int)]) rfl rfl rfl ?_;intro w1 g0 t1
   have T1:=Hh (t1);clear t1)
 |((with_reducible refine Zd 2 ?_);refine Zc T1.out 66 _ rfl rfl z_P ?_;intro w2 g1 t2
   have T2:=Hh (t2);obtain⟨c0,c1,c2,c3,c4,c5⟩:=Wk (T2.out.get 0 rfl);clear t2)
 |((with_reducible refine Zd 11 ?_);refine Zb 66 _ 66 g0 _ (T2.out.get 0 rfl) Zo Ye rfl rfl rfl ?_)
 |((with_reducible refine Zi 2 11 ?_);refine Za 66 _ _ 66 g1 _ ([Λ A n k,I J (a:Int),I J (d:Int),I J f0,I J (f1:Int),I J (f2:Int)]) (T2.out.get 1 rfl) rfl Ye (by simp[Γ]) rfl rfl rfl rfl rfl ?_
   intro w3 p3;have T3:Hid (Env w [(g0,66,[Λ A n k,I J (a:Int),I J (d:Int),I J f0,I J (f1:Int),I J (f2:Int)]),(g1,66,[Λ A n k,I J (a:Int),I J (d:Int),I J f0,I J (f1:Int),I J (f2:Int)])] [] [] w3):=Hh (T2.out.put 1 rfl p3);clear p3))
  exact Xh 2 66 3 66 _ _ _ rfl (T3.out.get 1 rfl) Zo Ye rfl rfl rfl ⟨_,rfl,RPv.mkBad (F:=(f0,f1,f2)) _ _ _ _ _ hd HF.out,T3.out.below⟩
theorem Znm(w:World)(r K:Nat)(L:List TokV)(st:St)(vs:List Value)(ho:Zv w r K L)(hp:RPv r K L st vs) :
  Calls Φ 24 #[.agg vs.toArray] w (PVo w r K L (Zae L st) (I J (Zbe L st))):=by
 have T0:=Hh (Env.start w);cases st with
 |ok a d=>
  obtain⟨n,hn,rfl,ha,hd⟩:=hp.ok;have hrow:=ho (by omega);have HR:=Hh hrow;have HN:=Hh (ζ hn ha);clear ho hp hn;go_enter Tryz.func24,Tryz.ntmps24;go_wp2_with(first
 |((with_reducible refine Zd 1 ?_);refine Zk T0.out 66 _ ([Λ (some ⟨r,0,none⟩) n K,I J (a:Int),I J (d:Int),I J 0,I J 0,I J 0]) rfl rfl rfl ?_;intro w1 g0 t1
   have T1:=Hh (t1);clear t1)
 |((with_reducible refine Zd 2 ?_);refine Zc T1.out 66 _ rfl rfl z_P ?_;intro w2 g1 t2
   have T2:=Hh (t2);obtain⟨c0,c1,c2,c3,c4,c5⟩:=Wk (T2.out.get 0 rfl);clear t2)
 |((with_reducible refine Zd 14 ?_);refine Xx 64 _ 66 g0 0 ([]) ([Λ (some ⟨r,0,none⟩) n K,I J (a:Int),I J (d:Int)]) ([I J 0,I J 0,I J 0]) (T2.out.get 0 rfl) rfl Zco Vi rfl rfl rfl ?_)
 |(go_at_call 52;refine(qSigned _ r K L n a d HN.out.1 (HR.out.below T2.out.below) HN.out.2).mono ?_;rintro e w3 ⟨rfl,b3⟩
   have T3:=Hh (T2.out.call b3);clear b3)
 |((with_reducible refine Zd 4 ?_);refine Zc T3.out 64 _ rfl rfl z_C ?_;intro w4 g2 t4
   have T4:=Hh (t4);clear t4)
 |((with_reducible refine Zd 6 ?_);refine Zc T4.out 29 _ rfl rfl z_F ?_;intro w5 g3 t5
   have T5:=Hh (t5);clear t5)
 |((with_reducible refine Zi 4 16 ?_);refine Za 64 _ _ 64 g2 _ ([Λ (some ⟨r,0,none⟩) n K,I J (Zem L a:Int),I J (d:Int)]) (T5.out.get 2 rfl) rfl Vi (by simp[Γ]) rfl rfl rfl rfl rfl ?_
   intro w6 p6;have T6:=Hh (T5.out.put 2 rfl p6);clear p6)
 |((with_reducible refine Zi 6 18 ?_);refine Za 29 _ _ 29 g3 _ ([I J (Zbp L a).1,I J ((Zbp L a).2.1:Int),I J ((Zbp L a).2.2:Int)]) (T6.out.get 3 rfl) rfl Vh (by simp[Γ]) rfl rfl rfl rfl rfl ?_
   intro w7 p7;have T7:=Hh (T6.out.put 3 rfl p7);clear p7)
 |((with_reducible refine Zd 19 ?_);refine Zb 64 _ 64 g2 _ (T7.out.get 2 rfl) Zco Vi rfl rfl rfl ?_)
 |((with_reducible refine Zd 20 ?_);refine Zb 29 _ 29 g3 _ (T7.out.get 3 rfl) Zdg Vh rfl rfl rfl ?_)
 |((with_reducible refine Zi 2 21 ?_);refine Za 66 _ _ 66 g1 _ ([Λ (some ⟨r,0,none⟩) n K,I J (Zem L a:Int),I J (d:Int),I J (Zbp L a).1,I J ((Zbp L a).2.1:Int),I J ((Zbp L a).2.2:Int)]) (T7.out.get 1 rfl) rfl Ye (by simp[Γ]) rfl rfl rfl rfl rfl ?_
   intro w8 p8;have T8:Hid (Env w [(g0,66,[Λ (some ⟨r,0,none⟩) n K,I J (a:Int),I J (d:Int),I J 0,I J 0,I J 0]),(g1,66,[Λ (some ⟨r,0,none⟩) n K,I J (Zem L a:Int),I J (d:Int),I J (Zbp L a).1,I J ((Zbp L a).2.1:Int),I J ((Zbp L a).2.2:Int)]),(g2,64,[Λ (some ⟨r,0,none⟩) n K,I J (Zem L a:Int),I J (d:Int)]),(g3,29,[I J (Zbp L a).1,I J ((Zbp L a).2.1:Int),I J ((Zbp L a).2.2:Int)])] [] [] w8):=Hh (T7.out.put 1 rfl p8);clear p8))
  exact Xh 2 66 3 66 _ _ _ rfl (T8.out.get 1 rfl) Zo Ye rfl rfl rfl ⟨_,rfl,RPv.note (signF_ok L a) HN.out.1 (signA_in HR.out.ends HN.out.2) hd,T8.out.below⟩
 |bad F=>
  obtain⟨A,n,k,a,d,rfl,hd,hF⟩:=hp.bad;obtain⟨f0,f1,f2⟩:=F;have z0:(f0 != 0)=true:=by rw[bne_iff_ne];exact hF
  have HF:=Hh hF;clear ho hp hF;go_enter Tryz.func24,Tryz.ntmps24;go_wp2_with(first
 |((with_reducible refine Zd 1 ?_);refine Zk T0.out 66 _ ([Λ A n k,I J (a:Int),I J (d:Int),I J f0,I J (f1:Int),I J (f2:Int)]) rfl rfl rfl ?_;intro w1 g0 t1
   have T1:=Hh (t1);clear t1)
 |((with_reducible refine Zd 2 ?_);refine Zc T1.out 66 _ rfl rfl z_P ?_;intro w2 g1 t2
   have T2:=Hh (t2);obtain⟨c0,c1,c2,c3,c4,c5⟩:=Wk (T2.out.get 0 rfl);clear t2)
 |((with_reducible refine Zd 11 ?_);refine Zb 66 _ 66 g0 _ (T2.out.get 0 rfl) Zo Ye rfl rfl rfl ?_)
 |((with_reducible refine Zi 2 11 ?_);refine Za 66 _ _ 66 g1 _ ([Λ A n k,I J (a:Int),I J (d:Int),I J f0,I J (f1:Int),I J (f2:Int)]) (T2.out.get 1 rfl) rfl Ye (by simp[Γ]) rfl rfl rfl rfl rfl ?_
   intro w3 p3;have T3:Hid (Env w [(g0,66,[Λ A n k,I J (a:Int),I J (d:Int),I J f0,I J (f1:Int),I J (f2:Int)]),(g1,66,[Λ A n k,I J (a:Int),I J (d:Int),I J f0,I J (f1:Int),I J (f2:Int)])] [] [] w3):=Hh (T2.out.put 1 rfl p3);clear p3))
  exact Xh 2 66 3 66 _ _ _ rfl (T3.out.get 1 rfl) Zo Ye rfl rfl rfl ⟨_,rfl,RPv.mkBad (F:=(f0,f1,f2)) _ _ _ _ _ hd HF.out,T3.out.below⟩
theorem qname(w:World)(r K:Nat)(L:List TokV)(st:St)(vs:List Value)(ho:Zv w r K L)(hp:RPv r K L st vs) :
  Calls Φ 21 #[.agg vs.toArray] w (PVo w r K L (Vf L st) (Ψ (Zdc L st))):=by
 have T0:=Hh (Env.start w);cases st with
 |ok a d=>
  obtain⟨n,hn,rfl,ha,hd⟩:=hp.ok;have hrow:=ho (by omega);have HR:=Hh hrow;have HN:=Hh (ζ hn ha);clear ho hp hn;go_enter Tryz.func21,Tryz.ntmps21;go_wp2_with(first
 |((with_reducible refine Zd 1 ?_);refine Zk T0.out 66 _ ([Λ (some ⟨r,0,none⟩) n K,I J (a:Int),I J (d:Int),I J 0,I J 0,I J 0]) rfl rfl rfl ?_;intro w1 g0 t1
   have T1:=Hh (t1);clear t1)
 |((with_reducible refine Zd 2 ?_);refine Zc T1.out 66 _ rfl rfl z_P ?_;intro w2 g1 t2
   have T2:=Hh (t2);obtain⟨c0,c1,c2,c3,c4,c5⟩:=Wk (T2.out.get 0 rfl);clear t2)
 |((with_reducible refine Zd 14 ?_);refine Xx 64 _ 66 g0 0 ([]) ([Λ (some ⟨r,0,none⟩) n K,I J (a:Int),I J (d:Int)]) ([I J 0,I J 0,I J 0]) (T2.out.get 0 rfl) rfl Zco Vi rfl rfl rfl ?_)
 |(go_at_call 49;refine(qName _ r K L n a d HN.out.1 (HR.out.below T2.out.below) HN.out.2).mono ?_;rintro e w3 ⟨rfl,b3⟩
   have T3:=Hh (T2.out.call b3);clear b3)
 |((with_reducible refine Zd 4 ?_);refine Zc T3.out 64 _ rfl rfl z_C ?_;intro w4 g2 t4
   have T4:=Hh (t4);clear t4)
 |((with_reducible refine Zd 6 ?_);refine Zc T4.out 29 _ rfl rfl z_F ?_;intro w5 g3 t5
   have T5:=Hh (t5);clear t5)
 |((with_reducible refine Zi 4 16 ?_);refine Za 64 _ _ 64 g2 _ ([Λ (some ⟨r,0,none⟩) n K,I J (Vz L a 3:Int),I J (d:Int)]) (T5.out.get 2 rfl) rfl Vi (by simp[Γ]) rfl rfl rfl rfl rfl ?_
   intro w6 p6;have T6:=Hh (T5.out.put 2 rfl p6);clear p6)
 |((with_reducible refine Zi 6 18 ?_);refine Za 29 _ _ 29 g3 _ ([I J (Wl L a 3).1,I J ((Wl L a 3).2.1:Int),I J ((Wl L a 3).2.2:Int)]) (T6.out.get 3 rfl) rfl Vh (by simp[Γ]) rfl rfl rfl rfl rfl ?_
   intro w7 p7;have T7:=Hh (T6.out.put 3 rfl p7);clear p7)
 |((with_reducible refine Zd 19 ?_);refine Zb 64 _ 64 g2 _ (T7.out.get 2 rfl) Zco Vi rfl rfl rfl ?_)
 |((with_reducible refine Zd 20 ?_);refine Zb 29 _ 29 g3 _ (T7.out.get 3 rfl) Zdg Vh rfl rfl rfl ?_)
 |((with_reducible refine Zi 2 21 ?_);refine Za 66 _ _ 66 g1 _ ([Λ (some ⟨r,0,none⟩) n K,I J (Vz L a 3:Int),I J (d:Int),I J (Wl L a 3).1,I J ((Wl L a 3).2.1:Int),I J ((Wl L a 3).2.2:Int)]) (T7.out.get 1 rfl) rfl Ye (by simp[Γ]) rfl rfl rfl rfl rfl ?_
   intro w8 p8;have T8:Hid (Env w [(g0,66,[Λ (some ⟨r,0,none⟩) n K,I J (a:Int),I J (d:Int),I J 0,I J 0,I J 0]),(g1,66,[Λ (some ⟨r,0,none⟩) n K,I J (Vz L a 3:Int),I J (d:Int),I J (Wl L a 3).1,I J ((Wl L a 3).2.1:Int),I J ((Wl L a 3).2.2:Int)]),(g2,64,[Λ (some ⟨r,0,none⟩) n K,I J (Vz L a 3:Int),I J (d:Int)]),(g3,29,[I J (Wl L a 3).1,I J ((Wl L a 3).2.1:Int),I J ((Wl L a 3).2.2:Int)])] [] [] w8):=Hh (T7.out.put 1 rfl p8);clear p8))
  exact Xh 2 66 3 66 _ _ _ rfl (T8.out.get 1 rfl) Zo Ye rfl rfl rfl ⟨_,rfl,RPv.note (Znx L a 3) HN.out.1 (kindA_in HR.out.ends HN.out.2 3) hd,T8.out.below⟩
 |bad F=>
  obtain⟨A,n,k,a,d,rfl,hd,hF⟩:=hp.bad;obtain⟨f0,f1,f2⟩:=F;have z0:(f0 != 0)=true:=by rw[bne_iff_ne];exact hF
  have HF:=Hh hF;clear ho hp hF;go_enter Tryz.func21,Tryz.ntmps21;go_wp2_with(first
 |((with_reducible refine Zd 1 ?_);refine Zk T0.out 66 _ ([Λ A n k,I J (a:Int),I J (d:Int),I J f0,I J (f1:Int),I J (f2:Int)]) rfl rfl rfl ?_;intro w1 g0 t1
   have T1:=Hh (t1);clear t1)
 |((with_reducible refine Zd 2 ?_);refine Zc T1.out 66 _ rfl rfl z_P ?_;intro w2 g1 t2
   have T2:=Hh (t2);obtain⟨c0,c1,c2,c3,c4,c5⟩:=Wk (T2.out.get 0 rfl);clear t2)
 |((with_reducible refine Zd 11 ?_);refine Zb 66 _ 66 g0 _ (T2.out.get 0 rfl) Zo Ye rfl rfl rfl ?_)
 |((with_reducible refine Zi 2 11 ?_);refine Za 66 _ _ 66 g1 _ ([Λ A n k,I J (a:Int),I J (d:Int),I J f0,I J (f1:Int),I J (f2:Int)]) (T2.out.get 1 rfl) rfl Ye (by simp[Γ]) rfl rfl rfl rfl rfl ?_
   intro w3 p3;have T3:Hid (Env w [(g0,66,[Λ A n k,I J (a:Int),I J (d:Int),I J f0,I J (f1:Int),I J (f2:Int)]),(g1,66,[Λ A n k,I J (a:Int),I J (d:Int),I J f0,I J (f1:Int),I J (f2:Int)])] [] [] w3):=Hh (T2.out.put 1 rfl p3);clear p3))
  exact Xh 2 66 3 66 _ _ _ rfl (T3.out.get 1 rfl) Zo Ye rfl rfl rfl ⟨_,rfl,RPv.mkBad (F:=(f0,f1,f2)) _ _ _ _ _ hd HF.out,T3.out.below⟩
theorem qdeeper(w:World)(r K:Nat)(L:List TokV)(st:St)(vs:List Value)(ho:Zv w r K L)(hp:RPv r K L st vs) :
  Calls Φ 146 #[.agg vs.toArray] w (PPo w r K L (Jr (downV L st) (Zlv st))):=by
 have T0:=Hh (Env.start w);cases st with
 |ok a d=>
  obtain⟨n,hn,rfl,ha,hd⟩:=hp.ok;have hrow:=ho (by omega);have HR:=Hh hrow;have HN:=Hh (ζ hn ha);have hdd:Zdd d≤8:=by unfold Zdd;split<;>omega
  have HD:=Hh hdd;clear ho hp hn hdd;go_enter Tryz.func146,Tryz.ntmps146;go_wp2_with(first
 |((with_reducible refine Zd 1 ?_);refine Zk T0.out 66 _ ([Λ (some ⟨r,0,none⟩) n K,I J (a:Int),I J (d:Int),I J 0,I J 0,I J 0]) rfl rfl rfl ?_;intro w1 g0 t1
   have T1:=Hh (t1);clear t1)
 |((with_reducible refine Zd 2 ?_);refine Zc T1.out 66 _ rfl rfl z_P ?_;intro w2 g1 t2
   have T2:=Hh (t2);obtain⟨c0,c1,c2,c3,c4,c5⟩:=Wk (T2.out.get 0 rfl);clear t2)
 |((with_reducible refine Zd 12 ?_);refine Xx 64 _ 66 g0 0 ([]) ([Λ (some ⟨r,0,none⟩) n K,I J (a:Int),I J (d:Int)]) ([I J 0,I J 0,I J 0]) (T2.out.get 0 rfl) rfl Zco Vi rfl rfl rfl ?_)
 |(go_at_call 175;refine(qDown _ r K L n a d HN.out.1 (HR.out.below T2.out.below) HN.out.2 hd).mono ?_;rintro e w3 ⟨rfl,b3⟩
   have T3:=Hh (T2.out.call b3);clear b3)
 |((with_reducible refine Zd 3 ?_);refine Zc T3.out 64 _ rfl rfl z_C ?_;intro w4 g2 t4
   have T4:=Hh (t4);clear t4)
 |((with_reducible refine Zd 4 ?_);refine Zc T4.out 29 _ rfl rfl z_F ?_;intro w5 g3 t5
   have T5:=Hh (t5);clear t5)
 |((with_reducible refine Zi 3 14 ?_);refine Za 64 _ _ 64 g2 _ ([Λ (some ⟨r,0,none⟩) n K,I J (a:Int),I J (Zdd d:Int)]) (T5.out.get 2 rfl) rfl Vi (by simp[Γ]) rfl rfl rfl rfl rfl ?_
   intro w6 p6;have T6:=Hh (T5.out.put 2 rfl p6);clear p6)
 |((with_reducible refine Zi 4 15 ?_);refine Za 29 _ _ 29 g3 _ ([I J (Zab L a d).1,I J ((Zab L a d).2.1:Int),I J ((Zab L a d).2.2:Int)]) (T6.out.get 3 rfl) rfl Vh (by simp[Γ]) rfl rfl rfl rfl rfl ?_
   intro w7 p7;have T7:=Hh (T6.out.put 3 rfl p7);clear p7)
 |((with_reducible refine Zd 16 ?_);refine Zb 64 _ 64 g2 _ (T7.out.get 2 rfl) Zco Vi rfl rfl rfl ?_)
 |((with_reducible refine Zd 17 ?_);refine Zb 29 _ 29 g3 _ (T7.out.get 3 rfl) Zdg Vh rfl rfl rfl ?_)
 |((with_reducible refine Zi 2 18 ?_);refine Za 66 _ _ 66 g1 _ ([Λ (some ⟨r,0,none⟩) n K,I J (a:Int),I J (Zdd d:Int),I J (Zab L a d).1,I J ((Zab L a d).2.1:Int),I J ((Zab L a d).2.2:Int)]) (T7.out.get 1 rfl) rfl Ye (by simp[Γ]) rfl rfl rfl rfl rfl ?_
   intro w8 p8;have T8:Hid (Env w [(g0,66,[Λ (some ⟨r,0,none⟩) n K,I J (a:Int),I J (d:Int),I J 0,I J 0,I J 0]),(g1,66,[Λ (some ⟨r,0,none⟩) n K,I J (a:Int),I J (Zdd d:Int),I J (Zab L a d).1,I J ((Zab L a d).2.1:Int),I J ((Zab L a d).2.2:Int)]),(g2,64,[Λ (some ⟨r,0,none⟩) n K,I J (a:Int),I J (Zdd d:Int)]),(g3,29,[I J (Zab L a d).1,I J ((Zab L a d).2.1:Int),I J ((Zab L a d).2.2:Int)])] [] [] w8):=Hh (T7.out.put 1 rfl p8);clear p8))
  exact Wu 2 66 66 _ _ rfl (T8.out.get 1 rfl) Zo Ye rfl rfl ⟨_,rfl,RPv.note (downF_ok L a d) HN.out.1 HN.out.2 HD.out,T8.out.below⟩
 |bad F=>
  obtain⟨A,n,k,a,d,rfl,hd,hF⟩:=hp.bad;obtain⟨f0,f1,f2⟩:=F;have z0:(f0 != 0)=true:=by rw[bne_iff_ne];exact hF
  have HF:=Hh hF;clear ho hp hF;go_enter Tryz.func146,Tryz.ntmps146;go_wp2_with(first
 |((with_reducible refine Zd 1 ?_);refine Zk T0.out 66 _ ([Λ A n k,I J (a:Int),I J (d:Int),I J f0,I J (f1:Int),I J (f2:Int)]) rfl rfl rfl ?_;intro w1 g0 t1
   have T1:=Hh (t1);clear t1)
 |((with_reducible refine Zd 2 ?_);refine Zc T1.out 66 _ rfl rfl z_P ?_;intro w2 g1 t2
   have T2:=Hh (t2);obtain⟨c0,c1,c2,c3,c4,c5⟩:=Wk (T2.out.get 0 rfl);clear t2)
 |((with_reducible refine Zd 9 ?_);refine Zb 66 _ 66 g0 _ (T2.out.get 0 rfl) Zo Ye rfl rfl rfl ?_)
 |((with_reducible refine Zi 2 9 ?_);refine Za 66 _ _ 66 g1 _ ([Λ A n k,I J (a:Int),I J (d:Int),I J f0,I J (f1:Int),I J (f2:Int)]) (T2.out.get 1 rfl) rfl Ye (by simp[Γ]) rfl rfl rfl rfl rfl ?_
   intro w3 p3;have T3:Hid (Env w [(g0,66,[Λ A n k,I J (a:Int),I J (d:Int),I J f0,I J (f1:Int),I J (f2:Int)]),(g1,66,[Λ A n k,I J (a:Int),I J (d:Int),I J f0,I J (f1:Int),I J (f2:Int)])] [] [] w3):=Hh (T2.out.put 1 rfl p3);clear p3))
  exact Wu 2 66 66 _ _ rfl (T3.out.get 1 rfl) Zo Ye rfl rfl ⟨_,rfl,RPv.mkBad (F:=(f0,f1,f2)) _ _ _ _ _ hd HF.out,T3.out.below⟩
theorem mixed:(Φ).follows .mixedOrders=true:=by kernel_rfl
def PTo(w:World)(r K:Nat)(L:List TokV)(st:St)(ds:Ds)(e:Ending)(w':World):Prop:=
 ∃ vs us:List Value,e=η (.tuple #[.agg vs.toArray,.agg us.toArray])∧RPv r K L st vs∧Zt (fun k=>w.heap.size≤k) w' ds us∧Below w.heap.size w w'
theorem qover(w:World)(r K:Nat)(L:List TokV)(st:St)(vs:List Value)(ho:Zv w r K L)(hp:RPv r K L st vs) :
  Calls Φ 26 #[.agg vs.toArray] w (PPo w r K L (Xp L st)):=by
 have T0:=Hh (Env.start w);cases st with
 |ok a d=>
  obtain⟨n,hn,rfl,ha,hd⟩:=hp.ok;have hrow:=ho (by omega);have HR:=Hh hrow;have HN:=Hh (ζ hn ha);have hfd:=fun w=>Zgr (Zx L a).k (Zx L a).n ((Zx L a).line:Int) ((Zx L a).col:Int) (Zx L a).t w
  clear ho hp hn;by_cases hk:(Zx L a).k=0
  · have e1:((Zx L a).k != 0)=false:=by rw[hk];rfl
    have e2:Xp L (.ok a d)=.ok a d:=if_pos hk;have E2:=Hh e2;clear e2 hk;go_enter Tryz.func26,Tryz.ntmps26;go_wp2_with(first
 |((with_reducible refine Zd 1 ?_);refine Zk T0.out 66 _ ([Λ (some ⟨r,0,none⟩) n K,I J (a:Int),I J (d:Int),I J 0,I J 0,I J 0]) rfl rfl rfl ?_;intro w1 g0 t1
   have T1:=Hh (t1);clear t1)
 |((with_reducible refine Zd 2 ?_);refine Zc T1.out 66 _ rfl rfl z_P ?_;intro w2 g1 t2
   have T2:=Hh (t2);obtain⟨c0,c1,c2,c3,c4,c5⟩:=Wk (T2.out.get 0 rfl);clear t2)
 |(go_at_call 19;refine(Zma _ r K L n a d HN.out.1 (HR.out.below T2.out.below) HN.out.2).mono ?_;rintro e w3 ⟨rfl,b3⟩
   have T3:=Hh (T2.out.call b3);simp only[Vt];clear b3)
 |((with_reducible refine Zd 16 ?_);refine Zb 66 _ 66 g0 _ (T3.out.get 0 rfl) Zo Ye rfl rfl rfl ?_)
 |((with_reducible refine Zi 2 16 ?_);refine Za 66 _ _ 66 g1 _ ([Λ (some ⟨r,0,none⟩) n K,I J (a:Int),I J (d:Int),I J 0,I J 0,I J 0]) (T3.out.get 1 rfl) rfl Ye (by simp[Γ]) rfl rfl rfl rfl rfl ?_
   intro w4 p4;have T4:Hid (Env w [(g0,66,[Λ (some ⟨r,0,none⟩) n K,I J (a:Int),I J (d:Int),I J 0,I J 0,I J 0]),(g1,66,[Λ (some ⟨r,0,none⟩) n K,I J (a:Int),I J (d:Int),I J 0,I J 0,I J 0])] [] [] w4):=Hh (T3.out.put 1 rfl p4)
   clear p4))
    refine Wu 2 66 66 _ _ rfl (T4.out.get 1 rfl) Zo Ye rfl rfl ?_;rw[E2.out];exact⟨_,rfl,RPv.mkOk HN.out.1 HN.out.2 hd,T4.out.below⟩
  · have e1:((Zx L a).k != 0)=true:=by rw[bne_iff_ne];exact hk
    have e2:Xp L (.ok a d)=Zjb L (.ok a d):=if_neg hk;have E2:=Hh e2;clear e2 hk;go_enter Tryz.func26,Tryz.ntmps26;go_wp2_with(first
 |((with_reducible refine Zd 1 ?_);refine Zk T0.out 66 _ ([Λ (some ⟨r,0,none⟩) n K,I J (a:Int),I J (d:Int),I J 0,I J 0,I J 0]) rfl rfl rfl ?_;intro w1 g0 t1
   have T1:=Hh (t1);clear t1)
 |((with_reducible refine Zd 2 ?_);refine Zc T1.out 66 _ rfl rfl z_P ?_;intro w2 g1 t2
   have T2:=Hh (t2);obtain⟨c0,c1,c2,c3,c4,c5⟩:=Wk (T2.out.get 0 rfl);clear t2)
 |(go_at_call 19;refine(Zma _ r K L n a d HN.out.1 (HR.out.below T2.out.below) HN.out.2).mono ?_;rintro e w3 ⟨rfl,b3⟩
   have T3:=Hh (T2.out.call b3);simp only[Vt];clear b3)
 |((with_reducible refine Zd 14 ?_);refine Zb 66 _ 66 g0 _ (T3.out.get 0 rfl) Zo Ye rfl rfl rfl ?_)
 |(go_at_call 54;refine(qbad _ r K L (.ok a d) [Λ (some ⟨r,0,none⟩) n K,I J (a:Int),I J (d:Int),I J 0,I J 0,I J 0] (fun _=>HR.out.below T3.out.below) (RPv.mkOk HN.out.1 HN.out.2 hd)).mono ?_;rintro e w4 ⟨v4,rfl,h4,b4⟩
   have T4:=Hh (T3.out.call b4);clear b4)
 |((with_reducible refine Zi 2 15 ?_);refine Za 66 _ _ 66 g1 _ (v4) (T4.out.get 1 rfl) h4.len (Zf h4.len) h4.one rfl rfl rfl rfl rfl ?_
   intro w5 p5;have T5:Hid (Env w [(g0,66,[Λ (some ⟨r,0,none⟩) n K,I J (a:Int),I J (d:Int),I J 0,I J 0,I J 0]),(g1,66,v4)] [] [] w5):=Hh (T4.out.put 1 rfl p5)
   clear p5))
    refine Wu 2 66 66 _ _ rfl (T5.out.get 1 rfl) Zo (Zf h4.len) rfl rfl ?_;rw[E2.out];exact⟨v4,rfl,h4,T5.out.below⟩
 |bad F=>
  obtain⟨A,n,k,a,d,rfl,hd,hF⟩:=hp.bad;obtain⟨f0,f1,f2⟩:=F;have z0:(f0 == 0)=false:=by rw[beq_eq_false_iff_ne];exact hF
  have HF:=Hh hF;clear ho hp hF;go_enter Tryz.func26,Tryz.ntmps26;go_wp2_with(first
 |((with_reducible refine Zd 1 ?_);refine Zk T0.out 66 _ ([Λ A n k,I J (a:Int),I J (d:Int),I J f0,I J (f1:Int),I J (f2:Int)]) rfl rfl rfl ?_;intro w1 g0 t1
   have T1:=Hh (t1);clear t1)
 |((with_reducible refine Zd 2 ?_);refine Zc T1.out 66 _ rfl rfl z_P ?_;intro w2 g1 t2
   have T2:=Hh (t2);obtain⟨c0,c1,c2,c3,c4,c5⟩:=Wk (T2.out.get 0 rfl);clear t2)
 |((with_reducible refine Zd 16 ?_);refine Zb 66 _ 66 g0 _ (T2.out.get 0 rfl) Zo Ye rfl rfl rfl ?_)
 |((with_reducible refine Zi 2 16 ?_);refine Za 66 _ _ 66 g1 _ ([Λ A n k,I J (a:Int),I J (d:Int),I J f0,I J (f1:Int),I J (f2:Int)]) (T2.out.get 1 rfl) rfl Ye (by simp[Γ]) rfl rfl rfl rfl rfl ?_
   intro w3 p3;have T3:Hid (Env w [(g0,66,[Λ A n k,I J (a:Int),I J (d:Int),I J f0,I J (f1:Int),I J (f2:Int)]),(g1,66,[Λ A n k,I J (a:Int),I J (d:Int),I J f0,I J (f1:Int),I J (f2:Int)])] [] [] w3):=Hh (T2.out.put 1 rfl p3);clear p3))
  exact Wu 2 66 66 _ _ rfl (T3.out.get 1 rfl) Zo Ye rfl rfl ⟨_,rfl,RPv.mkBad (F:=(f0,f1,f2)) _ _ _ _ _ hd HF.out,T3.out.below⟩
theorem qto(w:World)(r K:Nat)(L:List TokV)(st:St)(vs:List Value)(ho:Zv w r K L)(hp:RPv r K L st vs) :
  Calls Φ 109 #[.agg vs.toArray] w (PTo w r K L (toS L st) (.int (toK L st) (.int (toL L st) .nil))):=by
 have T0:=Hh (Env.start w);by_cases hz:Zh L wTo st=4
 ·have e1:toS L st=Zba L (Zp L wTo st):=if_pos hz
  have e2:toL L st=Zfe L (Zp L wTo st):=if_pos hz;have e3:((Zh L wTo st:Int) == 4)=true:=by rw[hz];rfl
  have E1:=Hh (ζ e1 e2);clear e1 e2 hz;go_enter Tryz.func109,Tryz.ntmps109;go_wp2_with(first
 |((with_reducible refine Zd 1 ?_);refine Zk T0.out 66 _ (vs) rfl rfl rfl ?_;intro w1 g0 t1
   have T1:=Hh (t1);clear t1)
 |((with_reducible refine Zd 2 ?_);refine Zc T1.out 66 _ rfl rfl z_P ?_;intro w2 g1 t2
   have T2:=Hh (t2);clear t2)
 |((with_reducible refine Zd 3 ?_);refine Zc T2.out 51 _ rfl rfl z_T ?_;intro w3 g2 t3
   have T3:=Hh (t3);clear t3)
 |((with_reducible refine Zd 10 ?_);refine Zb 66 _ 66 g0 _ (T3.out.get 0 rfl) Zo (Zf hp.len) rfl rfl rfl ?_)
 |(go_at_call 51;refine(Zgh _ r K _ L st vs wTo 4 4 _ rfl rfl (ho.below T3.out.below) hp rfl (by decide)).mono ?_;rintro e w4 ⟨v4,rfl,h4,b4⟩
   have T4:=Hh (T3.out.call b4);clear b4)
 |((with_reducible refine Zd 4 ?_);refine Zc T4.out 66 _ rfl rfl z_P ?_;intro w5 g3 t5
   have T5:=Hh (t5);clear t5)
 |((with_reducible refine Zi 4 13 ?_);refine Za 66 _ _ 66 g3 _ (v4) (T5.out.get 3 rfl) h4.len (Zf h4.len) h4.one rfl rfl rfl rfl rfl ?_
   intro w6 p6;have T6:=Hh (T5.out.put 3 rfl p6);clear p6)
 |((with_reducible refine Zd 6 ?_);refine Zc T6.out 51 _ rfl rfl z_T ?_;intro w7 g4 t7
   have T7:=Hh (t7);clear t7)
 |((with_reducible refine Zi 6 16 ?_);refine Za 51 _ _ 51 g4 _ ([I J (Zh L wTo st:Int),I J 0]) (T7.out.get 4 rfl) rfl Zad (by simp[Γ]) rfl rfl rfl rfl rfl ?_
   intro w8 p8;have T8:=Hh (T7.out.put 4 rfl p8);clear p8)
 |((with_reducible refine Zd 20 ?_);refine Zb 66 _ 66 g3 _ (T8.out.get 3 rfl) Zo (Zf h4.len) rfl rfl rfl ?_)
 |(go_at_call 22;refine(Zqh _ r K L _ v4 (ho.below T8.out.below) h4).mono ?_;rintro e w9 ⟨v9,rfl,h9,b9⟩
   have T9:=Hh (T8.out.call b9);clear b9)
 |((with_reducible refine Zd 7 ?_);refine Zc T9.out 66 _ rfl rfl z_P ?_;intro w10 g5 t10
   have T10:=Hh (t10);clear t10)
 |((with_reducible refine Zi 7 22 ?_);refine Za 66 _ _ 66 g5 _ (v9) (T10.out.get 5 rfl) h9.len (Zf h9.len) h9.one rfl rfl rfl rfl rfl ?_
   intro w11 p11;have T11:=Hh (T10.out.put 5 rfl p11);clear p11)
 |((with_reducible refine Zi 25 24 ?_);refine Zm 3 _ _ 51 g4 1 [I J (Zh L wTo st:Int)] (I J 0) (I J (Zfe L (Zp L wTo st))) [] (T11.out.get 4 rfl) rfl Yk rfl rfl rfl rfl rfl rfl ?_
   intro w12 p12;have T12:Hid (Env w [(g0,66,vs),(g1,66,[Λ none 0 0,I J 0,I J 0,I J 0,I J 0,I J 0]),(g2,51,[I J 0,I J 0]),(g3,66,v4),(g4,51,[I J (Zh L wTo st:Int),I J (Zfe L (Zp L wTo st))]),(g5,66,v9)] [] [] w12):=Hh (T11.out.put 4 rfl p12);clear p12))
  refine ret2 mixed (by kernel_rfl) (by kernel_rfl) (by kernel_rfl) (by kernel_rfl) (by kernel_rfl) (by kernel_rfl) (by kernel_rfl) (by kernel_rfl) rfl rfl rfl rfl rfl rfl rfl rfl rfl rfl g5 g4 g1 g2 (v9) ([I J (Zh L wTo st:Int),I J (Zfe L (Zp L wTo st))]) ([Λ none 0 0,I J 0,I J 0,I J 0,I J 0,I J 0]) ([I J 0,I J 0]) (T12.out.get 5 rfl) (T12.out.get 4 rfl) (T12.out.get 1 rfl) (T12.out.get 2 rfl) h9.len rfl h9.one (by simp[Γ]) (T12.out.ne 5 1 (by decide) rfl rfl) (T12.out.ne 5 2 (by decide) rfl rfl) (T12.out.ne 4 1 (by decide) rfl rfl) (T12.out.ne 4 2 (by decide) rfl rfl) (T12.out.ne 1 2 (by decide) rfl rfl) Zo (Zf h9.len) Zku Zad rfl rfl rfl rfl rfl rfl ?_;intro wz hR;have HZ:=Hh hR;clear hR;go_wp2
  obtain⟨dz,bz⟩:=T12.out.ret2 1 2 rfl rfl HZ.out;refine Yt 2 66 3 51 66 51 _ _ _ _ rfl HZ.out.one HZ.out.two Zo (Zf h9.len) Zku Zad rfl rfl rfl ?_;rw[E1.out.1,E1.out.2];exact⟨_,_,rfl,h9,⟨_,rfl,_,rfl,rfl⟩,bz⟩
 ·have e1:toS L st=Zp L wTo st:=if_neg hz
  have e2:toL L st=0:=if_neg hz;have e3:((Zh L wTo st:Int) == 4)=false:=by rw[beq_eq_false_iff_ne];omega
  have E1:=Hh (ζ e1 e2);clear e1 e2 hz;go_enter Tryz.func109,Tryz.ntmps109;go_wp2_with(first
 |((with_reducible refine Zd 1 ?_);refine Zk T0.out 66 _ (vs) rfl rfl rfl ?_;intro w1 g0 t1
   have T1:=Hh (t1);clear t1)
 |((with_reducible refine Zd 2 ?_);refine Zc T1.out 66 _ rfl rfl z_P ?_;intro w2 g1 t2
   have T2:=Hh (t2);clear t2)
 |((with_reducible refine Zd 3 ?_);refine Zc T2.out 51 _ rfl rfl z_T ?_;intro w3 g2 t3
   have T3:=Hh (t3);clear t3)
 |((with_reducible refine Zd 10 ?_);refine Zb 66 _ 66 g0 _ (T3.out.get 0 rfl) Zo (Zf hp.len) rfl rfl rfl ?_)
 |(go_at_call 51;refine(Zgh _ r K _ L st vs wTo 4 4 _ rfl rfl (ho.below T3.out.below) hp rfl (by decide)).mono ?_;rintro e w4 ⟨v4,rfl,h4,b4⟩
   have T4:=Hh (T3.out.call b4);clear b4)
 |((with_reducible refine Zd 4 ?_);refine Zc T4.out 66 _ rfl rfl z_P ?_;intro w5 g3 t5
   have T5:=Hh (t5);clear t5)
 |((with_reducible refine Zi 4 13 ?_);refine Za 66 _ _ 66 g3 _ (v4) (T5.out.get 3 rfl) h4.len (Zf h4.len) h4.one rfl rfl rfl rfl rfl ?_
   intro w6 p6;have T6:=Hh (T5.out.put 3 rfl p6);clear p6)
 |((with_reducible refine Zd 6 ?_);refine Zc T6.out 51 _ rfl rfl z_T ?_;intro w7 g4 t7
   have T7:=Hh (t7);clear t7)
 |((with_reducible refine Zi 6 16 ?_);refine Za 51 _ _ 51 g4 _ ([I J (Zh L wTo st:Int),I J 0]) (T7.out.get 4 rfl) rfl Zad (by simp[Γ]) rfl rfl rfl rfl rfl ?_
   intro w8 p8;have T8:Hid (Env w [(g0,66,vs),(g1,66,[Λ none 0 0,I J 0,I J 0,I J 0,I J 0,I J 0]),(g2,51,[I J 0,I J 0]),(g3,66,v4),(g4,51,[I J (Zh L wTo st:Int),I J 0])] [] [] w8):=Hh (T7.out.put 4 rfl p8);clear p8))
  refine ret2 mixed (by kernel_rfl) (by kernel_rfl) (by kernel_rfl) (by kernel_rfl) (by kernel_rfl) (by kernel_rfl) (by kernel_rfl) (by kernel_rfl) rfl rfl rfl rfl rfl rfl rfl rfl rfl rfl g3 g4 g1 g2 (v4) ([I J (Zh L wTo st:Int),I J 0]) ([Λ none 0 0,I J 0,I J 0,I J 0,I J 0,I J 0]) ([I J 0,I J 0]) (T8.out.get 3 rfl) (T8.out.get 4 rfl) (T8.out.get 1 rfl) (T8.out.get 2 rfl) h4.len rfl h4.one (by simp[Γ]) (T8.out.ne 3 1 (by decide) rfl rfl) (T8.out.ne 3 2 (by decide) rfl rfl) (T8.out.ne 4 1 (by decide) rfl rfl) (T8.out.ne 4 2 (by decide) rfl rfl) (T8.out.ne 1 2 (by decide) rfl rfl) Zo (Zf h4.len) Zku Zad rfl rfl rfl rfl rfl rfl ?_;intro wz hR;have HZ:=Hh hR;clear hR;go_wp2
  obtain⟨dz,bz⟩:=T8.out.ret2 1 2 rfl rfl HZ.out;refine Yt 2 66 3 51 66 51 _ _ _ _ rfl HZ.out.one HZ.out.two Zo (Zf h4.len) Zku Zad rfl rfl rfl ?_;rw[E1.out.1,E1.out.2];exact⟨_,_,rfl,h4,⟨_,rfl,_,rfl,rfl⟩,bz⟩
theorem Zmn{P:Program}{id:Nat}{Q:Exit→Act→World→Prop}{a:Act}{w:World}{o0 o1 o2 o3 o4:Oper}(hm:P.follows .mixedOrders=true)
  (cs:Region.noSelect #[o0,o1,o2,o3,o4]=true)(cf0:Region.free .any #[o0,o1,o2,o3,o4] (Array.replicate 5 false) 0=true)(cr0:(Region.ready .any #[o0,o1,o2,o3,o4] (Array.replicate 5 false)).contains 0=true)
  (cf2:Region.free .any #[o0,o1,o2,o3,o4] ((Array.replicate 5 false).setIfInBounds 0 true) 2=true)(cr2:(Region.ready .any #[o0,o1,o2,o3,o4] ((Array.replicate 5 false).setIfInBounds 0 true)).contains 2=true)
  (c1:Region.ready .any #[o0,o1,o2,o3,o4] (((Array.replicate 5 false).setIfInBounds 0 true).setIfInBounds 2 true)=[1])
  (c3:Region.ready .any #[o0,o1,o2,o3,o4] ((((Array.replicate 5 false).setIfInBounds 0 true).setIfInBounds 2 true).setIfInBounds 1 true)=[3])
  (c4:Region.ready .any #[o0,o1,o2,o3,o4] (((((Array.replicate 5 false).setIfInBounds 0 true).setIfInBounds 2 true).setIfInBounds 1 true).setIfInBounds 3 true)=[4])
  (c5:Region.ready .any #[o0,o1,o2,o3,o4] ((((((Array.replicate 5 false).setIfInBounds 0 true).setIfInBounds 2 true).setIfInBounds 1 true).setIfInBounds 3 true).setIfInBounds 4 true)=[])
  {T1 T2:TypeId}{x1 x2 y1 y2 z1 z2:Operand}(h0:o0.op=.load T1 x1)(h2:o2.op=.load T2 x2)(h3:o3.op=.store T1 y1 z1)(h4:o4.op=.store T2 y2 z2)
  (n0:o0.guard=none)(n1:o1.guard=none)(n2:o2.guard=none)(n3:o3.guard=none)(n4:o4.guard=none)(k3:o3.dst=none)(k4:o4.dst=none)
  (g1 g2 g3 g4:Nat){t1 t2 t3 t4:TypeId}(vs us old3 old4:List Value)(W1:Ze w g1 t1 vs.toArray)(W2:Ze w g2 t2 us.toArray)(W3:Ze w g3 t3 old3.toArray)(W4:Ze w g4 t4 old4.toArray)
  (f:FuncId)(args:Array Value)(R:List Value→Prop)
  (hrun:∀ x,(execOp ((a.put o0.dst (.agg vs.toArray)).put o2.dst (.agg us.toArray)).eval o1).run P x=.ok (.enter f args) x)
  (hc:Calls P f args w.drew fun e w''=>∃ vs':List Value,e=η (.agg vs'.toArray)∧R vs'∧Below w.drew.heap.size w.drew w'')
  (hl3:∀ vs',R vs'→vs'.length=old3.length)(hl4:us.length=old4.length)(ho1:∀ vs',R vs'→∀ v ∈ vs',v.oneCell'=true)(ho2:∀ v ∈ us,v.oneCell'=true)
  (d13:g1≠g3)(d14:g1≠g4)(d23:g2≠g3)(d24:g2≠g4)(d34:g3≠g4)(hvl:vs.length=old3.length)
  (hu1:(P.underlying T1).map TypeDesc.isRow=some true)(hi1:(P.info? T1).map (·.size)=some vs.length)(hu2:(P.underlying T2).map TypeDesc.isRow=some true)(hi2:(P.info? T2).map (·.size)=some us.length)
  (e1:a.eval x1=Ω (some ⟨g1,0,none⟩))(e2:(a.put o0.dst (.agg vs.toArray)).eval x2=Ω (some ⟨g2,0,none⟩))
  (e3:∀ v,(((a.put o0.dst (.agg vs.toArray)).put o2.dst (.agg us.toArray)).put o1.dst v).eval y1=Ω (some ⟨g3,0,none⟩))(e4:∀ v,(((a.put o0.dst (.agg vs.toArray)).put o2.dst (.agg us.toArray)).put o1.dst v).eval z1=v)
  (e5:∀ v,(((a.put o0.dst (.agg vs.toArray)).put o2.dst (.agg us.toArray)).put o1.dst v).eval y2=Ω (some ⟨g4,0,none⟩))(e6:∀ v,(((a.put o0.dst (.agg vs.toArray)).put o2.dst (.agg us.toArray)).put o1.dst v).eval z2=.agg us.toArray)
  (h:∀ vs' w',R vs'→Ret2 w w' g3 g4 t3 t4 vs' us→Q .normal (((a.put o0.dst (.agg vs.toArray)).put o2.dst (.agg us.toArray)).put o1.dst (.agg vs'.toArray)) w'):(Code.region id #[o0,o1,o2,o3,o4] true).wp P Q a w:=by
 obtain⟨d1,hu1,hr1⟩:=Option.map_eq_some_iff.1 hu1;obtain⟨d2,hu2,hr2⟩:=Option.map_eq_some_iff.1 hu2;refine wp_region_noPanic (wp_region_held_drew (S:=fun x=>Ze x g1 t1 vs.toArray∧Ze x g2 t2 us.toArray) hm ⟨W1.drew,W2.drew⟩ fun hS=>?_);have rg:∀{x:World}{g:Nat}{t:TypeId}{l:List Value},Ze x g t l.toArray→x.rangeAt g 0 l:=fun{x g t l} hx=>Ze.range (a:=[]) (b:=l) (c:=[]) (by simpa using hx)
 refine wpAnyH_take (i:=0) (oi:=o0) (v:=.agg vs.toArray) rfl cs cf0 cr0 (fun _ _ _ h=>h) (yieldsIf_load_mid (Jt n0) T1 x1 h0 g1 0 e1 vs d1 (fun x hx=>rg hx.1) hu1 hr1 hi1) hS ?_;refine wpAnyH_take (i:=2) (oi:=o2) (v:=.agg us.toArray) rfl cs cf2 cr2 (fun _ _ _ h=>h) (yieldsIf_load_mid (Jt n2) T2 x2 h2 g2 0 e2 us d2 (fun x hx=>rg hx.2) hu2 hr2 hi2) hS ?_;refine wpAnyH_ready (rs:=[1]) c1 (by simp) (AllReadyH.cons (o:=o1) rfl (fun K hK=>?_) AllReadyH.nil);rw[if_pos (Jt n1)];unfold Oper.wp;rw[hrun,Oper.upon_enter];refine hc.mono fun e w1 hh=>?_
 obtain⟨vs',rfl,hR,hB⟩:=hh;have kB:=Zy.of_below (S:=fun _=>False) hB;have V1:=kB.whole W1.drew not_false;have V2:=kB.whole W2.drew not_false;have V3:=kB.whole W3.drew not_false;have V4:=kB.whole W4.drew not_false;refine hK.out _ _ ⟨V1,V2⟩ fun hS1=>?_
 have th:∀{x:World}{g:Nat}{t:TypeId}{l:List Value},Ze x g t l.toArray→x.there g 0 l.length:=fun{x g t l} hx=>Ze.there (a:=[]) (b:=l) (c:=[]) (by simpa using hx)
 have p3:Ze (w1.setCells g3 0 vs') g3 t3 vs'.toArray:=by
  have e:=Ze.setCells (g:=g3) (t:=t3) [] vs' old3 [] w1 (hl3 _ hR) (by simpa using V3);simpa using e
 have k3':=Zy.setCells (S:=fun k=>k=g3) (g:=g3) rfl vs' 0 (Zy.refl _ w1);have q4:Ze (w1.setCells g3 0 vs') g4 t4 old4.toArray:=k3'.whole V4 (Ne.symm d34)
 have p4:Ze ((w1.setCells g3 0 vs').setCells g4 0 us) g4 t4 us.toArray:=by
  have e:=Ze.setCells (g:=g4) (t:=t4) [] us old4 [] (w1.setCells g3 0 vs') hl4 (by simpa using q4);simpa using e
 have k4':=Zy.setCells (S:=fun k=>k=g4) (g:=g4) rfl us 0 (Zy.refl _ (w1.setCells g3 0 vs'));refine wpAnyH_ready (rs:=[3]) c3 (by simp) (AllReadyH.cons (o:=o3) rfl (fun K hK=>?_) AllReadyH.nil);rw[if_pos (Jt n3)];refine wp_store_mid T1 y1 z1 h3 g3 0 vs'.toArray (e3 _) (e4 _) (by rw[List.size_toArray,hl3 _ hR];exact th V3) (by rw[List.size_toArray,hl3 _ hR,←hvl];exact hi1) (all_oneCell_toArray (ho1 _ hR)) ?_;rw[k3];refine hK.out _ _ ⟨k3'.whole V1 d13,k3'.whole V2 d23⟩ fun hS3=>?_
 refine wpAnyH_ready (rs:=[4]) c4 (by simp) (AllReadyH.cons (o:=o4) rfl (fun K hK=>?_) AllReadyH.nil);rw[if_pos (Jt n4)];refine wp_store_mid T2 y2 z2 h4 g4 0 us.toArray (e5 _) (e6 _) (by rw[List.size_toArray,hl4];exact th q4) (by simpa using hi2) (all_oneCell_toArray ho2) ?_;rw[k4];refine hK.out _ _ ⟨k4'.whole (k3'.whole V1 d13) d14,k4'.whole (k3'.whole V2 d23) d24⟩ fun hS4=>?_
 refine wpAnyH_done c5 ?_ _;refine h _ _ hR ⟨k4'.whole p3 d34,p4,?_⟩;exact(Zy.drew (Zy.refl _ w)).trans ((kB.mono fun k e=>e.elim).trans ((k3'.mono fun k e=>.inl e).trans (k4'.mono fun k e=>.inr e)))
end Go.Proofs.YtdngkgickbaboaaGreat
