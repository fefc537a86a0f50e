/-
  No conditions but those that each theorem names.
-/
import Derived.Great.Walk
import Derived.Deep.QuietTactic
import Derived.BigQuiet
import Derived.RegionTactic
import Derived.Test.YtljdgdphldckhaaGreatQU32
import Derived.Test.YtljdgdphldckhaaGreatQU33
set_option maxRecDepth 20000
set_option maxHeartbeats 12800000
namespace Go.Proofs.YtljdgdphldckhaaGreat
open Go.ChangeShapes Go.WideShapes Go.ChangeAt Go.RowKit
set_option linter.unusedVariables false
set_option linter.unusedSimpArgs false
def Zhf(nk:Int)(s:ByteArray):Acs×St:=Vn nk (Yp s) (Zcp s) (Jz s)
def actsP(nk:Int)(s:ByteArray):Acs×(Int×Nat×Nat):=(if(Xj (Yp s) (Zhf nk s).2).good=true then(Zhf nk s).1 else .nil,Xb (Xj (Yp s) (Zhf nk s).2))
def Zfv(nk:Int)(s:ByteArray):Ex×St:=Yd nk (Yp s) (Zcp s) (Jz s)
def Zkb(nk:Int)(s:ByteArray):Ex×(Int×Nat×Nat):=(if(Xj (Yp s) (Zfv nk s).2).good=true then(Zfv nk s).1 else zEx,Xb (Xj (Yp s) (Zfv nk s).2))
theorem Zji(s:ByteArray):Yb (Yp s) (Jz s)≤(Yp s).length:=by
 unfold Jz;split
 ·exact Nat.sub_le _ _
 ·exact Nat.zero_le _
theorem text_len(s:ByteArray)(h:s.size≤65536):(Yp s).length≤65537:=by
 unfold Yp;rcases Zlc s h with⟨E,l,c,hv,_⟩ | ⟨L,hv,_,hl⟩
 ·rw[hv];exact Nat.zero_le _
 ·rw[hv];show L.length≤65537;omega
def TopPost(w:World)(ds:Ds)(F:Int×Nat×Nat)(e:Ending)(w':World):Prop:=
 ∃ vs:List Value,e=.returned (.tuple #[.agg vs.toArray,Zq F])∧Zu (fun k=>w.heap.size≤k) w' ds vs∧Below w.heap.size w w'
def TopRow(w:World)(n:Nat)(ds:Ds)(F:Int×Nat×Nat)(e:Ending)(w':World):Prop:=
 ∃ v:Value,e=.returned (.tuple #[v,Zq F])∧Zu (fun k=>w.heap.size≤k) w' (.row n ds .nil) [v]∧Below w.heap.size w w'
theorem Zis{B:Nat}{w x y:World}{q c r K:Nat}{L:List TokV}{st:St}(h:Below B w x)(m:Wb x y q c r K L st)(hq:B≤q)(hc:B≤c)(hx:B≤x.heap.size):Below B w y:=
 h.trans (m.keeps.below hx fun k hk=>by omega)
theorem Zcg{B:Nat}{w x y:World}{g:Nat}{t:TypeId}{vs:List Value}(h:Below B w x)(p:Put x y g t vs)(hg:B≤g)(hx:B≤x.heap.size):Below B w y:=
 h.trans (p.keeps.below hx fun k hk=>by omega)
theorem bthen2{B:Nat}{w x y:World}(h:Below B w x)(k:Below x.heap.size x y)(hB:B≤x.heap.size):Below B w y:=h.trans (k.mono hB)
theorem xExpr(s:ByteArray)(w:World)(hs:s.size≤65536):Calls Tryz.prog 44 #[.string s] w (TopPost w (Zkb 5 s).1.ds (Zkb 5 s).2):=by
 have hr:=Zji s;have hl:=text_len s hs;have hbe:∀ w,Calls Tryz.prog 83 #[.string s] w (Znn w s):=fun w=>xbegin s w hs
 have hsub:∀ w q c r K,PAt w q c r K (Yp s) (Jz s)→Calls Tryz.prog 97 #[.pointer (some ⟨q,0,none⟩)] w (Ju w q c r K (Yp s) (Zfv 5 s).2 (Zfv 5 s).1.ds):=fun w q c r K h=>by
  have hN:Zcp s=8*(Yp s).length+20:=rfl;exact xexprs w q c r K _ _ (Zcp s) h (by omega) (by omega)
 unfold Znn at hbe;unfold Zkb;generalize Zfv 5 s=o at *;generalize Yp s=L at *;generalize Jz s=st at *;clear hr hl hs;have n1:=Zh w (.cells #[.int .i64 0,.int .i64 0,.int .i64 0,.int .i64 0,.int .i64 0,.int .i64 0,.slice none 0 0,.int .i64 0,.int .i64 0,.int .i64 0,.int .i64 0,.slice none 0 0] 51);have n2:=Zh (w.alloc (.cells #[.int .i64 0,.int .i64 0,.int .i64 0,.int .i64 0,.int .i64 0,.int .i64 0,.slice none 0 0,.int .i64 0,.int .i64 0,.int .i64 0,.int .i64 0,.slice none 0 0] 51)) (.cells #[.int .i64 0,.int .i64 0,.int .i64 0] 29);have R0:=Hh ((show Zd _ w.heap.size 51 ([.int .i64 0,.int .i64 0,.int .i64 0,.int .i64 0,.int .i64 0,.int .i64 0,.slice none 0 0,.int .i64 0,.int .i64 0,.int .i64 0,.int .i64 0,.slice none 0 0]).toArray from Zd.made w 51 #[.int .i64 0,.int .i64 0,.int .i64 0,.int .i64 0,.int .i64 0,.int .i64 0,.slice none 0 0,.int .i64 0,.int .i64 0,.int .i64 0,.int .i64 0,.slice none 0 0]).alloc (.cells #[.int .i64 0,.int .i64 0,.int .i64 0] 29));have F0:=Hh (show Zd ((w.alloc (.cells #[.int .i64 0,.int .i64 0,.int .i64 0,.int .i64 0,.int .i64 0,.int .i64 0,.slice none 0 0,.int .i64 0,.int .i64 0,.int .i64 0,.int .i64 0,.slice none 0 0] 51)).alloc (.cells #[.int .i64 0,.int .i64 0,.int .i64 0] 29)) (w.heap.size+1) 29 ([.int .i64 0,.int .i64 0,.int .i64 0]:List Value).toArray from by have e:=Zd.made (w.alloc (.cells #[.int .i64 0,.int .i64 0,.int .i64 0,.int .i64 0,.int .i64 0,.int .i64 0,.slice none 0 0,.int .i64 0,.int .i64 0,.int .i64 0,.int .i64 0,.slice none 0 0] 51)) 29 #[.int .i64 0,.int .i64 0,.int .i64 0];rw[World.size_alloc]at e;exact e);have B0:=Hh (Ul n1 n2);have hz0:((w.alloc (.cells #[.int .i64 0,.int .i64 0,.int .i64 0,.int .i64 0,.int .i64 0,.int .i64 0,.slice none 0 0,.int .i64 0,.int .i64 0,.int .i64 0,.int .i64 0,.slice none 0 0] 51)).alloc (.cells #[.int .i64 0,.int .i64 0,.int .i64 0] 29)).heap.size=w.heap.size+2:=by simp
 cases hg:(Xj L o.2).good
 ·rw[if_neg (by decide)]
  go_enter Tryz.func44,Tryz.ntmps44;go_wp2_with(first
 |(go_at_call 83;refine(hbe _).mono ?_;rintro e w1 ⟨q,c,r,K,rfl,hp,hq,hc,b1⟩
   rw[hz0]at hq hc;have hz1:w.heap.size+2≤w1.heap.size:=by have:=b1.size;rw[hz0]at this;exact this
   have R1:=Hh (R0.out.below b1 R0.out.inside);have F1:=Hh (F0.out.below b1 F0.out.inside);have B1:=Hh (bthen2 B0.out b1 (by rw[hz0];omega));have hq2:=hp.whole.inside;have hc2:=hp.cin;have P1:=Hh hp;clear hp b1)
 |(go_at_call 97;refine(hsub _ q c r K P1.out).mono ?_;rintro e w2 ⟨vs,rfl,d2,m2⟩
   obtain⟨a0,a1,a2,a3,a4,a5,a6,a7,a8,a9,a10,a11,rfl⟩:=Zcm vs d2.len12;have R2:=Hh (m2.keeps.whole R1.out (by omega));have F2:=Hh (m2.keeps.whole F1.out (by omega));have B2:=Hh (Zis B1.out m2 (by omega) (by omega) (by omega));have P2:=Hh m2.at_;have hz2:w1.heap.size≤w2.heap.size:=m2.keeps.size;have D2:=Hh d2;clear m2 d2)
 |(go_at_call 96;refine(xfinE _ q c r K L o.2 a0 a1 a2 a3 a4 a5 a6 a7 a8 a9 a10 a11 D2.out.one P2.out).mono ?_;rintro e w3 ⟨e3,m3⟩
   rw[hg]at e3;rw[if_neg (by decide)]at e3;obtain rfl:=e3;have R3:=Hh (m3.keeps.whole R2.out (by omega));have F3:=Hh (m3.keeps.whole F2.out (by omega));have B3:=Hh (Zis B2.out m3 (by omega) (by omega) (by omega));have hz3:w2.heap.size≤w3.heap.size:=m3.keeps.size;have D3:=Hh (D2.out.move m3 hq2 hc2);simp only[Zq];clear m3)
 |((with_reducible refine Zi 2 11 ?_);refine Za 51 _ _ 51 w.heap.size _ [.int .i64 0,.int .i64 0,.int .i64 0,.int .i64 0,.int .i64 0,.int .i64 0,.slice none 0 0,.int .i64 0,.int .i64 0,.int .i64 0,.int .i64 0,.slice none 0 0] R3.out rfl Yi (by simp[Value.oneCell']) rfl rfl rfl rfl rfl ?_
   intro w4 p4;have R4:=Hh p4.whole;have F4:=Hh (p4.keeps.whole F3.out (by omega));have B4:=Hh (Zcg B3.out p4 (Nat.le_refl _) (by omega));have D4:=Hh (D3.out.put p4 (by omega));have hz4:w3.heap.size≤w4.heap.size:=p4.keeps.size;clear p4)
 |((with_reducible refine Zi 3 12 ?_);refine Za 29 _ _ 29 (w.heap.size+1) _ [.int .i64 (Xb (Xj L o.2)).1,.int .i64 ((Xb (Xj L o.2)).2.1:Int),.int .i64 ((Xb (Xj L o.2)).2.2:Int)] F4.out rfl Wt (by simp[Value.oneCell']) rfl rfl rfl rfl rfl ?_
   intro w5 p5;have F5:=Hh p5.whole;have R5:=Hh (p5.keeps.whole R4.out (by omega));have B5:=Hh (Zcg B4.out p5 (by omega) (by omega));have D5:=Hh (D4.out.put p5 (by omega));clear p5))
  exact Yx 2 51 3 29 51 29 _ _ _ _ rfl R5.out F5.out Xh Yi Zbu Wt rfl rfl rfl ⟨_,rfl,(Zlq _ _),B5.out⟩
 ·rw[if_pos rfl]
  go_enter Tryz.func44,Tryz.ntmps44;go_wp2_with(first
 |(go_at_call 83;refine(hbe _).mono ?_;rintro e w1 ⟨q,c,r,K,rfl,hp,hq,hc,b1⟩
   rw[hz0]at hq hc;have hz1:w.heap.size+2≤w1.heap.size:=by have:=b1.size;rw[hz0]at this;exact this
   have R1:=Hh (R0.out.below b1 R0.out.inside);have F1:=Hh (F0.out.below b1 F0.out.inside);have B1:=Hh (bthen2 B0.out b1 (by rw[hz0];omega));have hq2:=hp.whole.inside;have hc2:=hp.cin;have P1:=Hh hp;clear hp b1)
 |(go_at_call 97;refine(hsub _ q c r K P1.out).mono ?_;rintro e w2 ⟨vs,rfl,d2,m2⟩
   obtain⟨a0,a1,a2,a3,a4,a5,a6,a7,a8,a9,a10,a11,rfl⟩:=Zcm vs d2.len12;have R2:=Hh (m2.keeps.whole R1.out (by omega));have F2:=Hh (m2.keeps.whole F1.out (by omega));have B2:=Hh (Zis B1.out m2 (by omega) (by omega) (by omega));have P2:=Hh m2.at_;have hz2:w1.heap.size≤w2.heap.size:=m2.keeps.size;have D2:=Hh d2;clear m2 d2)
 |(go_at_call 96;refine(xfinE _ q c r K L o.2 a0 a1 a2 a3 a4 a5 a6 a7 a8 a9 a10 a11 D2.out.one P2.out).mono ?_;rintro e w3 ⟨e3,m3⟩
   rw[hg]at e3;rw[if_pos rfl]at e3;obtain rfl:=e3;have R3:=Hh (m3.keeps.whole R2.out (by omega));have F3:=Hh (m3.keeps.whole F2.out (by omega));have B3:=Hh (Zis B2.out m3 (by omega) (by omega) (by omega));have hz3:w2.heap.size≤w3.heap.size:=m3.keeps.size;have D3:=Hh (D2.out.move m3 hq2 hc2);simp only[Zq];clear m3)
 |((with_reducible refine Zi 2 11 ?_);refine Za 51 _ _ 51 w.heap.size _ [a0,a1,a2,a3,a4,a5,a6,a7,a8,a9,a10,a11] R3.out rfl Yi D2.out.one rfl rfl rfl rfl rfl ?_
   intro w4 p4;have R4:=Hh p4.whole;have F4:=Hh (p4.keeps.whole F3.out (by omega));have B4:=Hh (Zcg B3.out p4 (Nat.le_refl _) (by omega));have D4:=Hh (D3.out.put p4 (by omega));have hz4:w3.heap.size≤w4.heap.size:=p4.keeps.size;clear p4)
 |((with_reducible refine Zi 3 12 ?_);refine Za 29 _ _ 29 (w.heap.size+1) _ [.int .i64 (Xb (Xj L o.2)).1,.int .i64 ((Xb (Xj L o.2)).2.1:Int),.int .i64 ((Xb (Xj L o.2)).2.2:Int)] F4.out rfl Wt (by simp[Value.oneCell']) rfl rfl rfl rfl rfl ?_
   intro w5 p5;have F5:=Hh p5.whole;have R5:=Hh (p5.keeps.whole R4.out (by omega));have B5:=Hh (Zcg B4.out p5 (by omega) (by omega));have D5:=Hh (D4.out.put p5 (by omega));clear p5))
  exact Yx 2 51 3 29 51 29 _ _ _ _ rfl R5.out F5.out Xh Yi Zbu Wt rfl rfl rfl ⟨_,rfl,(D5.out.lower (by omega)),B5.out⟩
open Go
theorem good_row{v:TokV}(h:GoodT v):(v.k=2→0≤v.n∧v.n≤99)∧(v.k=3→Zlo v.t):=by
 obtain⟨l,g1,g2,g3,g4,g5,g6,g7⟩:=h;refine⟨fun _=>by rw[g5];exact numOf_bd l,fun hk=>?_⟩;have hk3:(Yh l).1=3:=by rw[←g2];exact hk
 cases l with
 |nil=>simp[Yh]at g1
 |cons c r=>
  have key:(Yh (c::r)).1=3→c=34∧tw (Xl 34) r<r.length∧Zct (strOfNums (r.take (tw (Xl 34) r)))=true∧Yh (c::r)=(3,1,tw (Xl 34) r+1,tw (Xl 34) r+2):=by
   refine Zag c r (fun x=>x.1=3→c=34∧tw (Xl 34) r<r.length∧Zct (strOfNums (r.take (tw (Xl 34) r)))=true∧x=(3,1,tw (Xl 34) r+1,tw (Xl 34) r+2)) ?_ ?_ ?_ ?_ ?_ ?_ ?_ ?_
   ·intro _ hh;simp at hh
   ·intro _ _ _ hh;simp at hh
   ·intro _ _ hh;simp at hh
   ·intro _ hh;simp at hh
   ·intro h1 h2 h3 _;exact⟨h1,h2,h3,rfl⟩
   ·intro _ _ hh;simp at hh
   ·intro _ _ _ _ _ hh;simp at hh
   ·intro _ _ _ _ _ hh;simp at hh
  obtain⟨k1,k2,k3,k4⟩:=key hk3;rw[k4]at g3 g4;have e1:((c::r).take (tw (Xl 34) r+1)).drop 1=r.take (tw (Xl 34) r):=by rw[List.take_succ_cons,List.drop_succ_cons,List.drop_zero]
  dsimp only at g3 g4;rw[e1]at g4;unfold txt at g3;rw[if_pos hk,List.take_succ_cons,k1]at g3;have g3':=(List.cons.inj g3).2
  have e2:bL v.t=r.take (tw (Xl 34) r):=by
   have hlen:=congrArg List.length g3';rw[List.length_append,List.length_take,List.length_cons,List.length_nil]at hlen;have hz:(bL v.t).length=tw (Xl 34) r:=by omega
   have:=congrArg (List.take (tw (Xl 34) r)) g3';rw[List.take_append_of_le_length (by omega),List.take_of_length_le (by omega),List.take_take,Nat.min_eq_left (by omega)]at this;exact this
  refine⟨by rw[g4];exact k3,fun x hx=>?_⟩;have hb:=Ziy v.t x hx;rw[e2]at hx;have:=Zoj (Xl 34) r x hx;rw[Zbw]at this;exact⟨hb.1,hb.2,this⟩
theorem Sh.row{L:List TokV}(h:Sh L):∀ a,((Zv L a).k=2→0≤(Zv L a).n∧(Zv L a).n≤99)∧((Zv L a).k=3→Zlo (Zv L a).t):=by
 have z:∀ v:TokV,v.k=0→(v.k=2→0≤v.n∧v.n≤99)∧(v.k=3→Zlo v.t):=fun v hv=>⟨fun h=>by omega,fun h=>by omega⟩
 induction h with
 |fin v hk ht hn=>
  intro a;cases a with
  |zero=>rw[Zgh];exact z v hk
  |succ a=>exact z _ (by simp[Zv,zTok])
 |tok v L hg hL ih=>
  intro a;cases a with
  |zero=>rw[Zgh];exact good_row hg
  |succ a=>rw[Zkr];exact ih a
theorem Sh.ok{L:List TokV}(h:Sh L):Zar L:=⟨fun a=>(h.row a).1,fun a=>(h.row a).2⟩
theorem text_ok(s:ByteArray)(hs:s.size≤65536):(∃ F,Jz s=.bad F∧Yp s=[])∨(Jz s=.ok 0 0∧Zar (Yp s)):=by
 obtain⟨L,E,p,hc⟩:∃ L E p,Js s 0 []=(L,E,p):=⟨_,_,_,rfl⟩
 have hf:=Zif s s.size 0 [] L E p (by omega) (by omega) (Bd.zero s) hc;unfold Jz Yp;rw[Zgm s hs hc];by_cases hE:E=0
 ·obtain⟨L2,h2,h3⟩:=hf.1 hE
  have e:L=L2:=h2;subst e;right;rw[if_pos hE];exact⟨rfl,h3.sh.ok⟩
 ·left
  rw[if_neg hE];exact⟨_,if_neg hE,rfl⟩
theorem over_good{L:List TokV}{st:St}(h:(Xj L st).good=true):st.good=true:=by
 cases st with
 |ok a d=>rfl
 |bad F=>exact h
open Go.Great Go.ChangeShapes Go.WideShapes Go.ChangeAt Go.RowKit
def wt(v:TokV):Nat:=v.t.size+9
def wtL(l:List TokV):Nat:=(l.map wt).sum
def WS(L:List TokV):St→Nat
 |.ok a _=>wtL (L.drop a)
 |.bad _=>0
def Zci(L:List TokV)(a b:St)(c:Nat):Prop:=b.good=true→a.good=true∧c+WS L b≤WS L a
theorem Zjv(t:ByteArray):Vg [t]=t.size+1:=by simp[Vg]
theorem Wx(t:ByteArray)(k:List ByteArray):Vg (t::k)=t.size+1+Vg k:=by simp[Vg]
theorem Vc:Vg []=0:=rfl
theorem cur_k{L:List TokV}{a:Nat}(h:(Zv L a).k≠0):wtL (L.drop a)=wt (Zv L a)+wtL (L.drop (a+1))∧onA L a=a+1:=by
 have hl:a<L.length:=by
  apply Classical.byContradiction;intro hn;apply h;have e:Zv L a=zTok:=by unfold Zv;rw[List.getElem?_eq_none (by omega)];rfl
  rw[e];rfl
 refine⟨?_,by unfold onA;rw[if_neg h]⟩;have e:Zv L a=L[a]:=by unfold Zv;rw[List.getElem?_eq_getElem hl];rfl
 unfold wtL;rw[List.drop_eq_getElem_cons hl,List.map_cons,List.sum_cons,e]
theorem ba_same{s t:ByteArray}(h:s.toList=t.toList):s=t:=by
 rw[ByteArray.toList_eq,ByteArray.toList_eq]at h;exact ByteArray.ext (Array.toList_inj.1 h)
theorem Zot{v:TokV}{t:ByteArray}(h:isT v t=true):v.k≠0∧v.t=t:=by
 unfold isT at h;simp only[Bool.and_eq_true,Bool.or_eq_true,beq_iff_eq]at h;exact⟨by omega,ba_same h.2⟩
theorem wd_succ(t:ByteArray)(r:List ByteArray)(i:Nat)(hi:i≠0):wd (t::r) ((i+1:Nat):Int)=wd r (i:Int):=by
 unfold wd;obtain⟨j,rfl⟩:∃ j,i=j+1:=⟨i - 1,by omega⟩
 have e1:(((j+1+1:Nat):Int)).toNat - 1=j+1:=by omega
 have e2:(((j+1:Nat):Int)).toNat - 1=j:=by omega
 rw[e1,e2];rfl
theorem idx_tok{v:TokV}:∀{ws:List ByteArray},Zac v ws≠0→v.k≠0∧v.t=wd ws (Zac v ws)
 |[],h=>absurd rfl h
 |t::r,h=>by
  unfold Zac at h ⊢;by_cases h1:isT v t=true
  ·rw[if_pos h1];exact⟨(Zot h1).1,(Zot h1).2⟩
  ·rw[if_neg h1]at h ⊢
   by_cases h2:Zac v r=0
   ·rw[if_pos h2]at h;exact absurd rfl h
   ·rw[if_neg h2]
    obtain⟨h3,h4⟩:=idx_tok h2;exact⟨h3,by rw[wd_succ t r _ h2];exact h4⟩
theorem putS_two:∀{n:Int},0≤n→n≤99→(Wl n).size≤2:=by
 have h:∀ i:Fin 100,(Wl ((i.val:Nat):Int)).size≤2:=by decide +kernel
 intro n h1 h2;have:=h ⟨n.toNat,by omega⟩;rwa [show((n.toNat:Nat):Int)=n from by omega]at this
theorem putS_tri:∀{n:Int},0≤n→n≤99→(Wl (-n)).size≤3:=by
 have h:∀ i:Fin 100,(Wl (-((i.val:Nat):Int))).size≤3:=by decide +kernel
 intro n h1 h2;have:=h ⟨n.toNat,by omega⟩;rwa [show((n.toNat:Nat):Int)=n from by omega]at this
section
variable {L:List TokV} {nk:Int}
theorem p_refl(st:St):Zci L st st 0:=fun h=>⟨h,by omega⟩
theorem p_trans{a b c:St}{x y:Nat}(h:Zci L a b x)(k:Zci L b c y):Zci L a c (x+y):=fun g=>by
 obtain⟨g1,p1⟩:=k g;obtain⟨g2,p2⟩:=h g1;exact⟨g2,by omega⟩
theorem p_less{a b:St}{x y:Nat}(h:Zci L a b x)(hy:y≤x):Zci L a b y:=fun g=>by
 obtain⟨g1,p1⟩:=h g;exact⟨g1,by omega⟩
theorem p_wrong(a b:St)(x:Nat):Zci L a (Zhi L b) x:=by
 intro h;cases b<;>cases h
theorem Zmb{ws:List ByteArray}{st:St}(h0:Zj L ws st≠0):Zci L st (Yu L ws st) ((wd ws (Zj L ws st)).size+9):=by
 intro hg;cases st with
 |bad F=>cases hg
 |ok a d=>
  have h0':Zac (Zv L a) ws≠0:=h0;obtain⟨hk,ht⟩:=idx_tok h0';obtain⟨h1,h2⟩:=cur_k hk;refine⟨rfl,?_⟩;have e:Yu L ws (.ok a d)=.ok (onA L a) d:=if_neg h0';rw[e,h2];show(wd ws (Zac (Zv L a) ws:Nat)).size+9+wtL (L.drop (a+1))≤wtL (L.drop a);rw[h1,←ht];unfold wt;omega
theorem Zee(ws:List ByteArray)(st:St):Zci L st (Zm L ws st) ((wd ws (Zj L ws st)).size+9):=by
 unfold Zm;by_cases h0:Zj L ws st=0
 ·rw[if_pos h0];exact p_wrong _ _ _
 ·rw[if_neg h0];exact Zmb h0
theorem p_took{t:ByteArray}{st:St}(h0:isS L t st=true):Zci L st (Xy L t st) (t.size+9):=by
 intro hg;cases st with
 |bad F=>cases hg
 |ok a d=>
  have h0':isT (Zv L a) t=true:=h0;obtain⟨hk,ht⟩:=Zot h0';obtain⟨h1,h2⟩:=cur_k hk;refine⟨rfl,?_⟩;show t.size+9+wtL (L.drop (Zbq L a t))≤wtL (L.drop a);unfold Zbq;rw[if_pos h0',h2,h1,←ht];unfold wt;omega
theorem p_want(t:ByteArray)(st:St):Zci L st (Yw L t st) (t.size+9):=by
 unfold Yw;by_cases h0:isS L t st=true
 ·rw[if_pos h0];exact p_took h0
 ·rw[if_neg h0];exact p_wrong _ _ _
theorem p_note{st:St}{F:Int×Nat×Nat}{a d:Nat}{c:Nat}(h:F.1=0→Zci L st (.ok a d) c):Zci L st (Uh F (.ok a d)) c:=by
 have e:Uh F (.ok a d)=if F.1=0 then .ok a d else .bad F:=rfl
 rw[e];by_cases h0:F.1=0
 ·rw[if_pos h0];exact h h0
 ·rw[if_neg h0];intro g;cases g
theorem Zos{a k:Nat}(hk:(k:Int)≠0)(h:(We L a k).1=0):(Zv L a).k=k:=by
 unfold We at h;by_cases h1:(Zv L a).k=k
 ·exact h1
 ·rw[if_neg h1]at h;exact absurd h (Zfm _)
theorem p_int(hR:Zar L)(st:St):Zci L st (Zcu L st) ((Wl (Zfz L st)).size+7):=by
 cases st with
 |bad F=>intro g;cases g
 |ok a d=>
  refine p_note fun h0=>?_
  have hk:(Zv L a).k=2:=Zos (k:=2) (by decide) h0;obtain⟨h1,h2⟩:=cur_k (L:=L) (a:=a) (by rw[hk];decide);have hn:=hR.int a hk;have ev:Zfz L (.ok a d)=(Zv L a).n:=by show Zjb L a=_;unfold Zjb;rw[if_pos hk]
  have hs:=putS_two hn.1 hn.2;intro _;refine⟨rfl,?_⟩;have ea:Vs L a 2=a+1:=by unfold Vs;rw[if_pos hk,h2]
  rw[ev,ea];show _+wtL (L.drop (a+1))≤wtL (L.drop a);rw[h1];unfold wt;omega
theorem p_name(st:St):Zci L st (Jt L st) ((Zfu L st).size+9):=by
 cases st with
 |bad F=>intro g;cases g
 |ok a d=>
  refine p_note fun h0=>?_
  have hk:(Zv L a).k=3:=Zos (k:=3) (by decide) h0;obtain⟨h1,h2⟩:=cur_k (L:=L) (a:=a) (by rw[hk];decide);have ev:Zfu L (.ok a d)=(Zv L a).t:=by show Zkx L a=_;unfold Zkx;rw[if_pos hk]
  intro _;refine⟨rfl,?_⟩;have ea:Vs L a 3=a+1:=by unfold Vs;rw[if_pos hk,h2]
  rw[ev,ea];show _+wtL (L.drop (a+1))≤wtL (L.drop a);rw[h1];unfold wt;omega
theorem p_sign(hR:Zar L)(st:St):Zci L st (Zal L st) ((Wl (Zbt L st)).size+6):=by
 cases st with
 |bad F=>intro g;cases g
 |ok a d=>
  refine p_note fun h0=>?_
  by_cases hm:isT (Zv L a) Zmd=true
  ·obtain⟨hk,ht⟩:=Zot hm
   obtain⟨h1,h2⟩:=cur_k hk;have h0':(We L (onA L a) 2).1=0:=by unfold Zbd at h0;rw[if_pos hm]at h0;exact h0
   rw[h2]at h0';have hk2:(Zv L (a+1)).k=2:=Zos (k:=2) (by decide) h0';obtain⟨h3,h4⟩:=cur_k (L:=L) (a:=a+1) (by rw[hk2];decide);have hn:=hR.int (a+1) hk2;have ev:Zbt L (.ok a d) = -(Zv L (a+1)).n:=by show Zix L a=_;unfold Zix;rw[if_pos hm,h2,if_pos hk2]
   have hs:=putS_tri hn.1 hn.2;intro _;refine⟨rfl,?_⟩;have ea:Zdv L a=a+1+1:=by unfold Zdv;rw[if_pos hm,h2];first | rw[if_pos hk2,h4] | (unfold Vs;rw[if_pos hk2,h4])
   rw[ev,ea];show _+wtL (L.drop (a+1+1))≤wtL (L.drop a);rw[h1,h3];unfold wt;omega
  ·have h0':(We L a 2).1=0:=by unfold Zbd at h0;rw[if_neg hm]at h0;exact h0
   have hk:(Zv L a).k=2:=Zos (k:=2) (by decide) h0';obtain⟨h1,h2⟩:=cur_k (L:=L) (a:=a) (by rw[hk];decide);have hn:=hR.int a hk;have ev:Zbt L (.ok a d)=(Zv L a).n:=by show Zix L a=_;unfold Zix;rw[if_neg hm];unfold Zjb;rw[if_pos hk]
   have hs:=putS_two hn.1 hn.2;intro _;refine⟨rfl,?_⟩;have ea:Zdv L a=a+1:=by unfold Zdv;rw[if_neg hm];unfold Vs;rw[if_pos hk,h2]
   rw[ev,ea];show _+wtL (L.drop (a+1))≤wtL (L.drop a);rw[h1];unfold wt;omega
theorem p_down(t:ByteArray)(st:St):Zci L st (Vl L t st) (t.size+9):=by
 unfold Vl
 have h:Zci L st (Zhd L t st) 0:=by
  cases st with
  |bad F=>intro g;cases g
  |ok a d=>
   show Zci L _ (if isT (Zv L a) t=true then Uh (Uu L a d) (St.ok a (Zby d))else St.ok a d) 0;split
   ·exact p_note fun _ g=>⟨rfl,by show 0+WS L (.ok a _)≤WS L (.ok a d);exact Nat.le_of_eq (Nat.zero_add _)⟩
   ·exact p_refl _
 have:=p_trans h (p_want t (Zhd L t st));rwa [Nat.zero_add]at this
theorem p_rise(t:ByteArray)(st:St):Zci L st (Zft L t st) (t.size+9):=by
 unfold Zft;intro g
 have g1:(Yw L t st).good=true:=by
  generalize Yw L t st=q at *;cases q with
  |ok a d=>rfl
  |bad F=>cases g
 obtain⟨g2,p⟩:=p_want t st g1;refine⟨g2,?_⟩
 have e:WS L (upS (Yw L t st))=WS L (Yw L t st):=by
  generalize Yw L t st=q;cases q<;>rfl
 rw[e];exact p
theorem p_filter(hR:Zar L)(st:St)(h0:Zj L Ye st≠0):Zci L st (Wv nk L (Zj L Ye st) (Yu L Ye st)).2 (Vg (kFl (Wv nk L (Zj L Ye st) (Yu L Ye st)).1)):=by
 have hle:Zj L Ye st≤4:=by
  cases st with
  |ok a d=>exact Zeg (Zv L a) Ye
  |bad F=>exact absurd rfl h0
 have p0:=Zmb h0;intro hg;unfold Wv at hg ⊢;generalize Zj L Ye st=k at *;by_cases h12:k=1∨k=2
 ·rw[if_pos h12]at hg ⊢
  dsimp only at hg ⊢;obtain⟨g1,q1⟩:=p_sign hR _ hg;obtain⟨g2,q2⟩:=Zee wOp _ g1;obtain⟨g3,q3⟩:=p0 g2;refine⟨g3,?_⟩;unfold kFl;dsimp only;rw[if_pos (by omega)];simp only[Wx,Vc];omega
 ·rw[if_neg h12]at hg ⊢
  by_cases h3:k=3
  ·rw[if_pos h3]at hg ⊢
   dsimp only at hg ⊢;obtain⟨g2,q2⟩:=p_name _ hg;obtain⟨g3,q3⟩:=p0 g2;refine⟨g3,?_⟩;subst h3;unfold kFl;dsimp only;rw[if_neg (by omega),if_pos rfl];simp only[Wx,Vc,Zoo];have e3:((3:Nat):Int)=3:=rfl;rw[e3]at q3;omega
  ·rw[if_neg h3]at hg ⊢
   dsimp only at hg ⊢;obtain⟨g2,q2⟩:=Zee Vb _ hg;obtain⟨g3,q3⟩:=p0 g2;refine⟨g3,?_⟩
   have hk4:k=4:=by
    have:k≠0:=h0;omega
   subst hk4
   have hm:Zj L Vb (Yu L Ye st)≠0:=by
    intro h;unfold Zm at hg;rw[if_pos h]at hg;generalize Yu L Ye st=q at *;cases q<;>cases hg
   rw[if_neg hm];unfold kFl;dsimp only;rw[if_neg (by omega),if_neg (by omega)];have e:3+((Zj L Vb (Yu L Ye st):Nat):Int) - 3=(Zj L Vb (Yu L Ye st):Nat):=by omega
   rw[e];simp only[Wx,Vc];have e3:((4:Nat):Int)=4:=rfl;rw[e3]at q3;omega
theorem p_filters(hR:Zar L):∀(n:Nat)(st:St),Zci L st (Yc nk L n st).2 (Vg (Zoh (Yc nk L n st).1))
 |0,st=>p_refl st
 |n+1,st=>by
  rw[Yc];by_cases h0:Zj L Ye st=0
  ·rw[if_pos h0];exact p_refl st
  ·rw[if_neg h0]
   dsimp only;have h:=p_trans (p_filter (nk:=nk) hR st h0) (p_filters hR n (Wv nk L (Zj L Ye st) (Yu L Ye st)).2);refine p_less h ?_;show Vg (kFl _++Zoh _)≤_;rw[Xs];exact Nat.le_refl _
theorem p_where(hR:Zar L)(st:St):Zci L st (Zax L st) (Vg ([wd Zg (Un L st).1,wd Zw (Un L st).2.1]++(if(Un L st).2.1=3 then [Wl (Un L st).2.2]else []))):=by
 intro h;unfold Zax at h ⊢;unfold Un;dsimp only;by_cases h3:Zj L Zw (Zm L Zg st)=3
 ·rw[if_pos h3]at h ⊢
  obtain⟨g1,q1⟩:=p_int hR _ h;obtain⟨g2,q2⟩:=Zee Zw _ g1;obtain⟨g3,q3⟩:=Zee Zg _ g2;refine⟨g3,?_⟩;rw[if_pos (by omega),if_pos h3];simp only[Xs,Wx,Vc];omega
 ·simp only[if_neg h3]at h ⊢
  obtain⟨g2,q2⟩:=Zee Zw _ h;obtain⟨g3,q3⟩:=Zee Zg _ g2;refine⟨g3,?_⟩;rw[if_neg (by omega)];simp only[Xs,Wx,Vc];omega
theorem s1_size(c:UInt8):(⟨#[c]⟩:ByteArray).size=1:=rfl
theorem p_sel(hR:Zar L)(n:Nat)(st:St):Zci L st (Xr nk L n st).2 (Vg (Zgs (Xr nk L n st).1)):=by
 intro h;unfold Xr at h ⊢;by_cases h3:Zj L Ym st=3
 ·rw[if_pos h3]at h ⊢
  dsimp only at h ⊢;obtain⟨g1,q1⟩:=p_want Ws _ h;obtain⟨g2,q2⟩:=Zee Wm _ g1;obtain⟨g3,q3⟩:=p_filters (nk:=nk) hR n _ g2;obtain⟨g4,q4⟩:=p_where hR _ g3;obtain⟨g5,q5⟩:=Zee Ym st g4;refine⟨g5,?_⟩;unfold Zgs;dsimp only;rw[if_neg (by decide)];simp only[Xs,Wx,Vc,s1_size]at q4 ⊢;have e1:Ws.size=1:=rfl;rw[e1]at q1;omega
 ·rw[if_neg h3]at h ⊢
  dsimp only at h ⊢;obtain⟨g5,q5⟩:=Zee Ym st h;refine⟨g5,?_⟩;unfold Zgs;dsimp only
  have hle:Zj L Ym st≤3:=by
   cases st with
   |ok a d=>exact Zeg (Zv L a) Ym
   |bad F=>exact Nat.zero_le _
  have hz:Zj L Ym st≠0:=by
   intro hz;unfold Zm at h;rw[if_pos hz]at h;cases st<;>cases h
  rw[if_pos (by omega),Zjv];omega
theorem p_to(hR:Zar L)(st:St):Zci L st (toS L st) (Vg (kTo (toK L st) (toL L st))):=by
 intro h;unfold toS at h ⊢;unfold toK toL kTo;by_cases h4:Zj L wTo st=4
 ·rw[if_pos h4]at h ⊢
  obtain⟨g1,q1⟩:=p_int hR _ h;obtain⟨g2,q2⟩:=Zee wTo _ g1;refine⟨g2,?_⟩;rw[if_pos (by omega),if_pos h4];simp only[Xs,Wx,Vc];omega
 ·simp only[if_neg h4]at h ⊢
  obtain⟨g2,q2⟩:=Zee wTo _ h;refine⟨g2,?_⟩;rw[if_neg (by omega)];simp only[Xs,Wx,Vc];omega
end
theorem kB_len(b:Bool)(X:List ByteArray):Vg (kB b X)≤Vg X+4:=by
 unfold kB;have e1:Wo.size=1:=rfl;have e2:Ws.size=1:=rfl;split
 ·simp only[Xs,Wx,Vc,e1,e2];omega
 ·omega
theorem sign_size{op:Int}(h1:1≤op)(h3:op≤3):(wd Zlr op).size=1:=by
 have h:op=1∨op=2∨op=3:=by omega
 rcases h with rfl | rfl | rfl<;>rfl
theorem kEx_bin{op:Int}(h1:1≤op)(h3:op≤3)(l r:Ex):Vg (kEx (.bin op l r))≤Vg (kEx l)+Vg (kEx r)+10:=by
 have e:kEx (.bin op l r)=kB (Zap false op l) (kEx l)++([wd Zlr op]++kB (Zap true op r) (kEx r)):=rfl;rw[e];simp only[Xs,Wx,Vc,sign_size h1 h3];have:=kB_len (Zap false op l) (kEx l);have:=kB_len (Zap true op r) (kEx r);omega
theorem sum_size{k:Nat}(h0:k≠0)(h:k≤2):(wd Jx (k:Int)).size=1:=by
 have h:k=1∨k=2:=by omega
 rcases h with rfl | rfl<;>rfl
section
variable {L:List TokV} {nk:Int}
theorem find_le(ws:List ByteArray)(st:St):Zj L ws st≤ws.length:=by
 cases st with
 |ok a d=>exact Zeg (Zv L a) ws
 |bad F=>exact Nat.zero_le _
theorem p_exprs(hR:Zar L):∀ n:Nat,
  (∀ st,4*Yb L st+3≤n→Zci L st (Yd nk L n st).2 (Vg (kEx (Yd nk L n st).1))) ∧
  (∀ x,4*Yb L x.2≤n→(Ud nk L n x).2.good=true→x.2.good=true∧Vg (kEx (Ud nk L n x).1)+WS L (Ud nk L n x).2≤Vg (kEx x.1)+WS L x.2) ∧
  (∀ st,4*Yb L st+2≤n→Zci L st (Wz nk L n st).2 (Vg (kEx (Wz nk L n st).1))) ∧
  (∀ x,4*Yb L x.2≤n→(Uc nk L n x).2.good=true→x.2.good=true∧Vg (kEx (Uc nk L n x).1)+WS L (Uc nk L n x).2≤Vg (kEx x.1)+WS L x.2) ∧
  (∀ st,4*Yb L st+1≤n→Zci L st (Wf nk L n st).2 (Vg (kEx (Wf nk L n st).1)))
 |0=>⟨fun st h=>by omega,fun x _ h=>⟨h,Nat.le_refl _⟩,fun st h=>by omega,fun x _ h=>⟨h,Nat.le_refl _⟩,fun st h=>by omega⟩
 |n+1=>by
  obtain⟨i1,i2,i3,i4,i5⟩:=p_exprs hR n;refine⟨fun st hn h=>?_,fun x hn h=>?_,fun st hn h=>?_,fun x hn h=>?_,fun st hn h=>?_⟩
  ·rw[Yd]at h ⊢
   have r1:=Zfb L nk n st;obtain⟨g1,q1⟩:=i2 _ (by omega) h;obtain⟨g2,q2⟩:=i3 st (by omega) g1;exact⟨g2,by omega⟩
  ·rw[Ud]at h ⊢
   by_cases h0:Zj L Jx x.2=0
   ·rw[if_pos h0]at h ⊢;exact⟨h,Nat.le_refl _⟩
   ·rw[if_neg h0]at h ⊢
    have r1:=Zao L h0;have r2:=Zfb L nk n (Yu L Jx x.2);obtain⟨g1,q1⟩:=i2 _ (by dsimp only;omega) h;dsimp only at g1 q1;obtain⟨g2,q2⟩:=i3 _ (by omega) g1;obtain⟨g3,q3⟩:=Zmb h0 g2;have hle:=find_le (L:=L) Jx x.2;have hle:Zj L Jx x.2≤2:=hle;have hb:=kEx_bin (op:=(Zj L Jx x.2:Nat)) (by omega) (by omega) x.1 (Wz nk L n (Yu L Jx x.2)).1;rw[sum_size h0 hle]at q3;exact⟨g3,by omega⟩
  ·rw[Wz]at h ⊢
   have r1:=Zfd L nk n st;obtain⟨g1,q1⟩:=i4 _ (by omega) h;obtain⟨g2,q2⟩:=i5 st (by omega) g1;exact⟨g2,by omega⟩
  ·rw[Uc]at h ⊢
   by_cases h0:isS L Wr x.2=true
   ·rw[if_pos h0]at h ⊢
    have r1:=Zfa L h0;have r2:=Zfd L nk n (Xy L Wr x.2);obtain⟨g1,q1⟩:=i4 _ (by dsimp only;omega) h;dsimp only at g1 q1;obtain⟨g2,q2⟩:=i5 _ (by omega) g1;obtain⟨g3,q3⟩:=p_took h0 g2;have hb:=kEx_bin (op:=3) (by omega) (by omega) x.1 (Wf nk L n (Xy L Wr x.2)).1;have e1:Wr.size=1:=rfl;rw[e1]at q3;exact⟨g3,by omega⟩
   ·rw[if_neg h0]at h ⊢;exact⟨h,Nat.le_refl _⟩
  ·rw[Wf]at h ⊢
   by_cases ho:isS L Wo st=true
   ·rw[if_pos ho]at h ⊢
    dsimp only at h ⊢;have r1:=Zih L ho;obtain⟨g1,q1⟩:=p_rise Ws _ h;obtain⟨g2,q2⟩:=i1 _ (by omega) g1;obtain⟨g3,q3⟩:=p_down Wo _ g2;exact⟨g3,by omega⟩
   ·rw[if_neg ho]at h ⊢
    by_cases h0:Zj L Yy st=0
    ·rw[if_pos h0]at h ⊢
     dsimp only at h ⊢;obtain⟨g1,q1⟩:=p_sign hR _ h;refine⟨g1,?_⟩;have e:kEx (.leaf 1 (Zbt L st) zSe 0 0 0)=[Wl (Zbt L st)]:=rfl;rw[e,Zjv];omega
    ·rw[if_neg h0]at h ⊢
     have hle:Zj L Yy st≤5:=find_le (L:=L) Yy st;have p0:=Zmb h0;by_cases h12:Zj L Yy st=1∨Zj L Yy st=2
     ·rw[if_pos h12]at h ⊢
      dsimp only at h ⊢;obtain⟨g1,q1⟩:=p_sel hR n _ h;obtain⟨g2,q2⟩:=p0 g1;refine⟨g2,?_⟩
      have e:kEx (.leaf ((Zj L Yy st:Nat)+1) 0 (Xr nk L n (Yu L Yy st)).1 0 0 0)=[wd Yy (Zj L Yy st:Nat)]++Zgs (Xr nk L n (Yu L Yy st)).1:=by
        show kLeaf _ _ _ _ _ _=_;unfold kLeaf;rw[if_neg (by omega),if_pos (by omega)];congr 2
        rw[show((Zj L Yy st:Nat):Int)+1 - 1=(Zj L Yy st:Nat)from by omega]
      rw[e,Xs,Zjv];omega
     ·rw[if_neg h12]at h ⊢
      by_cases h3:Zj L Yy st=3
      · rw[if_pos h3]at h ⊢
        dsimp only at h ⊢;obtain⟨g2,q2⟩:=p0 h;refine⟨g2,?_⟩;have e:kEx (.leaf 4 0 zSe 0 0 0)=[wd Yy 3]:=rfl;rw[h3]at q2;have e3:((3:Nat):Int)=3:=rfl;rw[e3]at q2;rw[e,Zjv];omega
      · rw[if_neg h3]at h ⊢
        by_cases h4:Zj L Yy st=4
        ·rw[if_pos h4]at h ⊢
         dsimp only at h ⊢;obtain⟨g1,q1⟩:=Zee Zg _ h;obtain⟨g2,q2⟩:=p0 g1;refine⟨g2,?_⟩;have e:kEx (.leaf 5 0 zSe (Zj L Zg (Yu L Yy st):Nat) 0 0)=[wd Yy 4,wd Zg (Zj L Zg (Yu L Yy st):Nat)]:=rfl;rw[h4]at q2;have e3:((4:Nat):Int)=4:=rfl;rw[e3]at q2;rw[e];simp only[Wx,Vc];omega
        ·rw[if_neg h4]at h ⊢
         dsimp only at h ⊢;obtain⟨g1,q1⟩:=p_to hR _ h;obtain⟨g3,q3⟩:=Zee Zg _ g1;obtain⟨g2,q2⟩:=p0 g3;refine⟨g2,?_⟩;have h5:Zj L Yy st=5:=by omega
         have e:∀ a b c:Int,kEx (.leaf 6 0 zSe a b c)=[wd Yy 5,wd Zg a]++kTo b c:=fun _ _ _=>rfl
         rw[h5]at q2;have e3:((5:Nat):Int)=5:=rfl;rw[e3]at q2;rw[e];simp only[Xs,Wx,Vc];omega
theorem Zna(hR:Zar L){n:Nat}{st:St}(hn:4*Yb L st+3≤n):Zci L st (Yd nk L n st).2 (Vg (kEx (Yd nk L n st).1)):=(p_exprs hR n).1 st hn
theorem kA1{h:AH}  (c:h.kind=1∨h.kind=2∨h.kind=12):Zck h=Zgs h.sel++kEx h.num:=by unfold Zck;rw[if_pos c]
theorem kA2{h:AH}(n1:¬(h.kind=1∨h.kind=2∨h.kind=12))(c:h.kind=3∨h.kind=5∨h.kind=14):Zck h=Zgs h.sel:=by unfold Zck;rw[if_neg n1,if_pos c]
theorem kA3{h:AH}(n1:¬(h.kind=1∨h.kind=2∨h.kind=12))(n2:¬(h.kind=3∨h.kind=5∨h.kind=14))(c:h.kind=4):Zck h=Zgs h.sel++kTo h.tk h.tl:=by unfold Zck;rw[if_neg n1,if_neg n2,if_pos c]
theorem kA4{h:AH}(n1:¬(h.kind=1∨h.kind=2∨h.kind=12))(n2:¬(h.kind=3∨h.kind=5∨h.kind=14))(n3:¬(h.kind=4))(c:h.kind=6):Zck h=[qN h.name,wd Zg h.side]++(kTo h.tk h.tl++kEx h.num):=by unfold Zck;rw[if_neg n1,if_neg n2,if_neg n3,if_pos c]
theorem kA5{h:AH}(n1:¬(h.kind=1∨h.kind=2∨h.kind=12))(n2:¬(h.kind=3∨h.kind=5∨h.kind=14))(n3:¬(h.kind=4))(n4:¬(h.kind=6))(c:h.kind=7∨h.kind=9):Zck h=[wd Zg h.side]++kEx h.num:=by unfold Zck;rw[if_neg n1,if_neg n2,if_neg n3,if_neg n4,if_pos c]
theorem kA6{h:AH}(n1:¬(h.kind=1∨h.kind=2∨h.kind=12))(n2:¬(h.kind=3∨h.kind=5∨h.kind=14))(n3:¬(h.kind=4))(n4:¬(h.kind=6))(n5:¬(h.kind=7∨h.kind=9))(c:h.kind=8):Zck h=[wd Zg h.side,wd Zcl h.how]:=by unfold Zck;rw[if_neg n1,if_neg n2,if_neg n3,if_neg n4,if_neg n5,if_pos c]
theorem kA7{h:AH}(n1:¬(h.kind=1∨h.kind=2∨h.kind=12))(n2:¬(h.kind=3∨h.kind=5∨h.kind=14))(n3:¬(h.kind=4))(n4:¬(h.kind=6))(n5:¬(h.kind=7∨h.kind=9))(n6:¬(h.kind=8)):Zck h=[wd Zg h.side]++kTo h.tk h.tl:=by unfold Zck;rw[if_neg n1,if_neg n2,if_neg n3,if_neg n4,if_neg n5,if_neg n6]
theorem p_plain(hR:Zar L){n k:Nat}{l c:Int}{st:St}(hk:1≤k∧k≤15∧k≠10∧k≠11)(hn:4*Yb L st+3≤n) :
  Zci L st (Wn nk L n (AH.zero k l c) k st).2 (Vg (Zck (Wn nk L n (AH.zero k l c) k st).1))∧(Wn nk L n (AH.zero k l c) k st).1.kind=k:=by
 unfold Wn;by_cases c1:k=1∨k=2∨k=12
 ·rw[if_pos c1]
  refine⟨fun h=>?_,rfl⟩;dsimp only at h ⊢;have r:=Zab L nk n st;obtain⟨g1,q1⟩:=Zna hR (by omega) h;obtain⟨g2,q2⟩:=p_sel hR n _ g1;refine⟨g2,?_⟩;rw[kA1  (by show((k:Int)=1∨(k:Int)=2∨(k:Int)=12);omega),Xs];dsimp only;omega
 ·rw[if_neg c1]
  have n1:¬((k:Int)=1∨(k:Int)=2∨(k:Int)=12):=by omega
  by_cases c2:k=3∨k=5∨k=14
  ·rw[if_pos c2]
   refine⟨fun h=>?_,rfl⟩;dsimp only at h ⊢;obtain⟨g2,q2⟩:=p_sel hR n _ h;refine⟨g2,?_⟩;rw[kA2 n1 (by show((k:Int)=3∨(k:Int)=5∨(k:Int)=14);omega)];exact q2
  ·rw[if_neg c2]
   have n2:¬((k:Int)=3∨(k:Int)=5∨(k:Int)=14):=by omega
   by_cases c3:k=4
   ·rw[if_pos c3]
    refine⟨fun h=>?_,rfl⟩;dsimp only at h ⊢;obtain⟨g1,q1⟩:=p_to hR _ h;obtain⟨g2,q2⟩:=p_sel hR n _ g1;refine⟨g2,?_⟩;rw[kA3 n1 n2 (by show(k:Int)=4;omega),Xs];dsimp only;omega
   ·rw[if_neg c3]
    have n3:¬(k:Int)=4:=by omega
    by_cases c4:k=6
    ·rw[if_pos c4]
     refine⟨fun h=>?_,rfl⟩;dsimp only at h ⊢;have r1:=Zhl L (Zm L Zg (Jt L st));have r2:=Xu L Zg (Jt L st);have r3:=Zjq L st;obtain⟨g0,q0⟩:=Zna hR (by omega) h;obtain⟨g1,q1⟩:=p_to hR _ g0;obtain⟨g2,q2⟩:=Zee Zg _ g1;obtain⟨g3,q3⟩:=p_name _ g2;refine⟨g3,?_⟩;rw[kA4 n1 n2 n3 (by show(k:Int)=6;omega)];simp only[Xs,Wx,Vc,Zoo];omega
    ·rw[if_neg c4]
     have n4:¬(k:Int)=6:=by omega
     by_cases c5:k=7∨k=9
     ·rw[if_pos c5]
      refine⟨fun h=>?_,rfl⟩;dsimp only at h ⊢;have r2:=Xu L Zg st;obtain⟨g0,q0⟩:=Zna hR (by omega) h;obtain⟨g2,q2⟩:=Zee Zg _ g0;refine⟨g2,?_⟩;rw[kA5 n1 n2 n3 n4 (by show((k:Int)=7∨(k:Int)=9);omega)];simp only[Xs,Wx,Vc];omega
     ·rw[if_neg c5]
      have n5:¬((k:Int)=7∨(k:Int)=9):=by omega
      by_cases c6:k=8
      ·rw[if_pos c6]
       refine⟨fun h=>?_,rfl⟩;dsimp only at h ⊢;obtain⟨g0,q0⟩:=Zee Zcl _ h;obtain⟨g2,q2⟩:=Zee Zg _ g0;refine⟨g2,?_⟩;rw[kA6 n1 n2 n3 n4 n5 (by show(k:Int)=8;omega)];simp only[Xs,Wx,Vc];omega
      ·rw[if_neg c6]
       have n6:¬(k:Int)=8:=by omega
       have c7:k=13∨k=15:=by omega
       rw[if_pos c7];refine⟨fun h=>?_,rfl⟩;dsimp only at h ⊢;obtain⟨g0,q0⟩:=p_to hR _ h;obtain⟨g2,q2⟩:=Zee Zg _ g0;refine⟨g2,?_⟩;rw[kA7 n1 n2 n3 n4 n5 n6];simp only[Xs,Wx,Vc];omega
theorem p_cond(hR:Zar L){n:Nat}{h0:AH}{st:St}(hn:4*Yb L st+3≤n):Zci L st (Uv nk L n h0 st).2 (Vg (Znx (Uv nk L n h0 st).1)):=by
 intro h;unfold Uv at h ⊢;dsimp only at h ⊢;have r1:=Zbv L nk n st;have r2:=Xu L wOp (Yd nk L n st).2;obtain⟨g1,q1⟩:=Zna hR (by omega) h;obtain⟨g2,q2⟩:=Zee wOp _ g1;obtain⟨g3,q3⟩:=Zna hR hn g2;refine⟨g3,?_⟩;unfold Znx;simp only[Xs,Wx,Vc];omega
def kRest(h:AH)(t e:List ByteArray)(no:Bool):List ByteArray:=if h.kind=10 then Znx h++(Zmh t++Zjw no e)else if h.kind=11 then Zgs h.sel++Zmh t else Zck h++[Xi]
theorem kRest_11{h:AH}{t e:List ByteArray}{no:Bool}(hk:h.kind=11):kRest h t e no=Zgs h.sel++Zmh t:=by
 unfold kRest;rw[if_neg (by omega),if_pos hk]
theorem kBlk_len(X:List ByteArray):Vg (Zmh X)=Vg X+4:=by
 unfold Zmh;have e1:Vj.size=1:=rfl;have e2:Zam.size=1:=rfl;simp only[Xs,Wx,Vc,e1,e2];omega
theorem kElse_len(no:Bool)(X:List ByteArray):Vg (Zjw no X)≤Vg (Zmh X)+5:=by
 unfold Zjw;have e1:Ug.size=4:=rfl;split
 ·simp only[Vc];omega
 ·simp only[Xs,Wx,Vc,e1];omega
theorem p_acts(hR:Zar L):∀ n:Nat,
  (∀ st,4*Yb L st+1≤n→Zci L st (Vn nk L n st).2 (Vg (Vd (Vn nk L n st).1))) ∧
  (∀(k:Nat)(l c:Int) st,1≤k∧k≤15→4*Yb L st+4≤n→Zci L st (Zbn nk L n (AH.zero k l c) k st).st (Vg (kRest (Zbn nk L n (AH.zero k l c) k st).h (Vd (Zbn nk L n (AH.zero k l c) k st).thn) (Vd (Zbn nk L n (AH.zero k l c) k st).els) (Zbn nk L n (AH.zero k l c) k st).els.isNil)) ∧
    (Zbn nk L n (AH.zero k l c) k st).h.kind=k) ∧
  (∀ st,4*Yb L st+3≤n→Zci L st (Yv nk L n st).2 (Vg (Zmh (Vd (Yv nk L n st).1))))
 |0=>⟨fun st h=>by omega,fun k l c st _ h=>by omega,fun st h=>by omega⟩
 |n+1=>by
  obtain⟨i1,i2,i3⟩:=p_acts hR n;refine⟨fun st hn=>?_,fun k l c st hk hn=>?_,fun st hn h=>?_⟩
  · rw[Vn]
    by_cases h0:Zj L Xo st=0
    ·rw[if_pos h0];exact p_refl st
    ·rw[if_neg h0]
     dsimp only;have r1:=Zao L h0;have r2:=rem_act L nk n (AH.zero (Zj L Xo st) (st.tok L).line (st.tok L).col) (Zj L Xo st) (Yu L Xo st);have hle:Zj L Xo st≤15:=find_le (L:=L) Xo st;obtain⟨a1,a2⟩:=i2 (Zj L Xo st) (st.tok L).line (st.tok L).col (Yu L Xo st) ⟨by omega,hle⟩ (by omega);intro h;obtain⟨g1,q1⟩:=i1 _ (by omega) h;obtain⟨g2,q2⟩:=a1 g1;obtain⟨g3,q3⟩:=Zmb h0 g2;refine⟨g3,?_⟩;unfold Vd;have e:∀(h:AH)(t e:List ByteArray)(no:Bool),kAct h t e no=[wd Xo h.kind]++kRest h t e no:=fun _ _ _ _=>rfl
     rw[e,a2];simp only[Xs,Wx,Vc];omega
  · rw[Zbn]
    by_cases h10:k=10
    ·rw[if_pos h10]
     subst h10;have r1:=Zlz L nk n (AH.zero (10:Nat) l c) st;have r2:=Zge L nk n (Uv nk L n (AH.zero (10:Nat) l c) st).2;have e10:(Uv nk L n (AH.zero (10:Nat) l c) st).1.kind=10:=rfl;by_cases he:isS L Ug (Yv nk L n (Uv nk L n (AH.zero (10:Nat) l c) st).2).2=true
     ·rw[if_pos he]
      refine⟨fun h=>?_,rfl⟩;dsimp only at h ⊢;have r3:=Zfa L he;obtain⟨g1,q1⟩:=i3 _ (by omega) h;obtain⟨g2,q2⟩:=p_took he g1;obtain⟨g3,q3⟩:=i3 _ (by omega) g2;obtain⟨g4,q4⟩:=p_cond hR (by omega) g3;refine⟨g4,?_⟩;unfold kRest;rw[if_pos e10];have e1:Ug.size=4:=rfl;rw[e1]at q2;have hel:=kElse_len (Yv nk L n (Xy L Ug (Yv nk L n (Uv nk L n (AH.zero (10:Nat) l c) st).2).2)).1.isNil (Vd (Yv nk L n (Xy L Ug (Yv nk L n (Uv nk L n (AH.zero (10:Nat) l c) st).2).2)).1);simp only[Xs];omega
     ·rw[if_neg he]
      refine⟨fun h=>?_,rfl⟩;dsimp only at h ⊢;obtain⟨g3,q3⟩:=i3 _ (by omega) h;obtain⟨g4,q4⟩:=p_cond hR (by omega) g3;refine⟨g4,?_⟩;unfold kRest;rw[if_pos e10];have e:Zjw (Acs.nil).isNil (Vd .nil)=[]:=rfl;rw[e];simp only[Xs,Vc];omega
    ·rw[if_neg h10]
     by_cases h11:k=11
     ·rw[if_pos h11]
      subst h11;have r1:=Zab L nk n st;refine⟨fun h=>?_,rfl⟩;dsimp only at h ⊢;obtain⟨g3,q3⟩:=i3 _ (by omega) h;obtain⟨g4,q4⟩:=p_sel hR n _ g3;refine⟨g4,?_⟩;rw[kRest_11 rfl];simp only[Xs];omega
     ·rw[if_neg h11]
      obtain⟨a1,a2⟩:=p_plain (nk:=nk) (l:=l) (c:=c) hR (n:=n) (k:=k) (st:=st) ⟨hk.1,hk.2,h10,h11⟩ (by omega);refine⟨fun h=>?_,a2⟩;dsimp only at h ⊢;obtain⟨g3,q3⟩:=p_want Xi _ h;obtain⟨g4,q4⟩:=a1 g3;refine⟨g4,?_⟩;unfold kRest;rw[a2,if_neg (by omega),if_neg (by omega)];simp only[Xs,Zjv];omega
  · rw[Yv]at h ⊢
    dsimp only at h ⊢;have r1:=Zhm L Vj st;obtain⟨g1,q1⟩:=p_rise Zam _ h;obtain⟨g2,q2⟩:=i1 _ (by omega) g1;obtain⟨g3,q3⟩:=p_down Vj _ g2;refine⟨g3,?_⟩;rw[kBlk_len];omega
end
theorem tokL_to(l:List Int):(Yh l).2.2.1≤(Yh l).2.2.2:=by
 cases l with
 |nil=>exact Nat.le_refl _
 |cons c r=>
  refine Zag c r (fun x=>x.2.2.1≤x.2.2.2) ?_ ?_ ?_ ?_ ?_ ?_ ?_ ?_<;>intros<;>simp
theorem Tr.weight{s:ByteArray}{a:Nat}{L:List TokV}(h:Tr s a L):wtL L+10*a≤10*s.size+9:=by
 induction h with
 |fin a ha=>
  have e:wtL [Znj s a]=9:=rfl;rw[e];omega
 |skip a b L hab _ ih=>omega
 |tok a L ha hk _ _ ih=>
  have h1:=Zbs s ha (by omega);have h2:=tokL_to (Zl s a);have e:wtL (Zgk s a::L)=(Zgk s a).t.size+9+wtL L:=by simp[wtL,wt]
  have h3:(Zgk s a).t.size≤(Yh (Zl s a)).2.2.2:=by
   show(s.extract _ _).size≤_;rw[ByteArray.size_extract];omega
  rw[e];omega
theorem Znp(s:ByteArray)(hs:s.size≤65536):WS (Yp s) (Jz s)≤10*s.size+9:=by
 obtain⟨L,E,p,hc⟩:∃ L E p,Js s 0 []=(L,E,p):=⟨_,_,_,rfl⟩
 have hf:=Zif s s.size 0 [] L E p (by omega) (by omega) (Bd.zero s) hc;unfold Jz Yp;rw[Zgm s hs hc];by_cases hE:E=0
 ·obtain⟨L2,h2,h3⟩:=hf.1 hE
  have e:L=L2:=h2;subst e;rw[if_pos hE];have:=h3.weight;show wtL (List.drop 0 L)≤_;rw[List.drop_zero];omega
 ·rw[if_neg hE,if_neg hE]
  exact Nat.zero_le _
def OKB(st:St):Prop:=∀ F,st=.bad F→F.1≠0
section
variable {L:List TokV} {nk:Int}
theorem Zgp(a d:Nat):OKB (.ok a d):=fun F h=>by cases h
theorem Zoq{F:Int×Nat×Nat}(h:F.1≠0):OKB (.bad F):=fun G e=>by cases e;exact h
theorem Zmc{F:Int×Nat×Nat}:∀{st:St},OKB st→OKB (Uh F st)
 |.ok a d,h=>by
  show OKB (if F.1=0 then St.ok a d else .bad F);split
  ·exact Zgp a d
  ·exact Zoq (by assumption)
 |.bad G,h=>h
theorem okb_wrong:∀{st:St},OKB st→OKB (Zhi L st)
 |.ok a d,h=>Zoq (Zfm _)
 |.bad G,h=>h
theorem okb_take{t:ByteArray}:∀{st:St},OKB st→OKB (Xy L t st)
 |.ok a d,h=>Zgp _ _
 |.bad G,h=>h
theorem okb_want{t:ByteArray}{st:St}(h:OKB st):OKB (Yw L t st):=by
 unfold Yw;split
 ·exact okb_take h
 ·exact okb_wrong h
theorem okb_int:∀{st:St},OKB st→OKB (Zcu L st)
 |.ok a d,h=>Zmc (Zgp _ _)
 |.bad G,h=>h
theorem okb_name:∀{st:St},OKB st→OKB (Jt L st)
 |.ok a d,h=>Zmc (Zgp _ _)
 |.bad G,h=>h
theorem okb_sign:∀{st:St},OKB st→OKB (Zal L st)
 |.ok a d,h=>Zmc (Zgp _ _)
 |.bad G,h=>h
theorem Zgq{ws:List ByteArray}:∀{st:St},OKB st→OKB (Yu L ws st)
 |.ok a d,h=>by show OKB (if Zac (Zv L a) ws=0 then St.ok a d else .ok (onA L a) d);split<;>exact Zgp _ _
 |.bad G,h=>h
theorem Zcd{ws:List ByteArray}{st:St}(h:OKB st):OKB (Zm L ws st):=by
 unfold Zm;split
 ·exact okb_wrong h
 ·exact Zgq h
theorem okb_deep{t:ByteArray}:∀{st:St},OKB st→OKB (Zhd L t st)
 |.ok a d,h=>by show OKB (if isT (Zv L a) t=true then Uh (Uu L a d) (.ok a (Zby d))else .ok a d);split;exact Zmc (Zgp _ _);exact Zgp _ _
 |.bad G,h=>h
theorem okb_down{t:ByteArray}{st:St}(h:OKB st):OKB (Vl L t st):=okb_want (okb_deep h)
theorem okb_up:∀{st:St},OKB st→OKB (upS st)
 |.ok a d,h=>Zgp _ _
 |.bad G,h=>h
theorem okb_rise{t:ByteArray}{st:St}(h:OKB st):OKB (Zft L t st):=okb_up (okb_want h)
theorem okb_over:∀{st:St},OKB st→OKB (Xj L st)
 |.ok a d,h=>by show OKB (if(Zv L a).k=0 then St.ok a d else .bad (wrF (Zv L a)));split;exact Zgp _ _;exact Zoq (Zfm _)
 |.bad G,h=>h
theorem okb_filter{k:Nat}{st:St}(h:OKB st):OKB (Wv nk L k st).2:=by
 unfold Wv;split
 ·exact okb_sign (Zcd h)
 ·split
  ·exact okb_name h
  ·exact Zcd h
theorem Znu:∀(n:Nat){st:St},OKB st→OKB (Yc nk L n st).2
 |0,st,h=>h
 |n+1,st,h=>by
  unfold Yc;split
  ·exact h
  ·exact Znu n (okb_filter (Zgq h))
theorem okb_where{st:St}(h:OKB st):OKB (Zax L st):=by
 unfold Zax;split
 ·exact okb_int (Zcd (Zcd h))
 ·exact Zcd (Zcd h)
theorem okb_sel{n:Nat}{st:St}(h:OKB st):OKB (Xr nk L n st).2:=by
 unfold Xr;split
 ·exact okb_want (Zcd (Znu n (okb_where (Zcd h))))
 ·exact Zcd h
theorem okb_to{st:St}(h:OKB st):OKB (toS L st):=by
 unfold toS;split
 ·exact okb_int (Zcd h)
 ·exact Zcd h
theorem okb_exprs:∀ n:Nat,(∀{st},OKB st→OKB (Yd nk L n st).2)∧(∀{x},OKB x.2→OKB (Ud nk L n x).2)∧(∀{st},OKB st→OKB (Wz nk L n st).2)∧(∀{x},OKB x.2→OKB (Uc nk L n x).2)∧(∀{st},OKB st→OKB (Wf nk L n st).2)
 |0=>⟨fun h=>h,fun h=>h,fun h=>h,fun h=>h,fun h=>h⟩
 |n+1=>by
  obtain⟨i1,i2,i3,i4,i5⟩:=okb_exprs n;refine⟨fun h=>?_,fun h=>?_,fun h=>?_,fun h=>?_,fun h=>?_⟩
  ·rw[Yd];exact i2 (i3 h)
  ·rw[Ud];split
   ·exact h
   ·exact i2 (i3 (Zgq h))
  ·rw[Wz];exact i4 (i5 h)
  ·rw[Uc];split
   ·exact i4 (i5 (okb_take h))
   ·exact h
  ·rw[Wf];split
   ·exact okb_rise (i1 (okb_down h))
   ·split
    ·exact okb_sign h
    ·split
     ·exact okb_sel (Zgq h)
     ·split
      ·exact Zgq h
      · split
        ·exact Zcd (Zgq h)
        ·exact okb_to (Zcd (Zgq h))
end
theorem okb_text(s:ByteArray):OKB (Jz s):=by
 unfold Jz;split
 ·exact Zgp _ _
 ·exact Zoq (by assumption)
theorem exprP_ok(nk:Int)(s:ByteArray)(hs:s.size≤65536)(h0:(Zkb nk s).2.1=0):VEx (Zkb nk s).1∧Vg (kEx (Zkb nk s).1)≤10*s.size+9:=by
 unfold Zkb at h0 ⊢;dsimp only at h0 ⊢;have hb:OKB (Xj (Yp s) (Zfv nk s).2):=okb_over ((okb_exprs (Zcp s)).1 (okb_text s));by_cases hg:(Xj (Yp s) (Zfv nk s).2).good=true
 ·rw[if_pos hg]
  have h2:=over_good hg;unfold Zfv at h2 ⊢;rcases text_ok s hs with⟨F,e1,e2⟩ | ⟨e1,hr⟩
  ·rw[e1,(Zhv (Zcp s)).1 F]at h2
   cases h2
  ·have hrem:=Zji s
   have h3:=Zhw (nk:=nk) hr (n:=Zcp s) (st:=Jz s) (d:=0) (by unfold Zcp;omega) (by omega) h2 ⟨0,e1⟩;have h4:=(Zna (nk:=nk) hr (n:=Zcp s) (st:=Jz s) (by unfold Zcp;omega) h2).2;have:=Znp s hs;exact⟨h3.2.1,by omega⟩
 ·exfalso
  cases h:Xj (Yp s) (Zfv nk s).2 with
  |ok a d=>rw[h]at hg;exact hg rfl
  |bad F=>rw[h]at h0 hb;exact hb F rfl h0
theorem actsP_ok(nk:Int)(s:ByteArray)(hs:s.size≤65536):Um 0 (actsP nk s).1∧Vg (Vd (actsP nk s).1)≤10*s.size+9:=by
 unfold actsP;dsimp only;by_cases hg:(Xj (Yp s) (Zhf nk s).2).good=true
 ·rw[if_pos hg]
  have h2:=over_good hg;unfold Zhf at h2 ⊢;have hrem:=Zji s;rcases text_ok s hs with⟨F,e1,e2⟩ | ⟨e1,hr⟩
  ·rw[e1,show Zcp s=(Zcp s - 1)+1 from by unfold Zcp;omega,Vn]at h2
   cases h2
  ·have h3:=(acts_val (nk:=nk) hr (Zcp s)).1 (Jz s) 0 (by unfold Zcp;omega) (by omega) h2 ⟨0,e1⟩
   have h4:=((p_acts (nk:=nk) hr (Zcp s)).1 (Jz s) (by unfold Zcp;omega) h2).2;have:=Znp s hs;exact⟨h3.2,by omega⟩
 ·rw[if_neg hg]
  exact⟨trivial,Nat.zero_le _⟩
theorem qz_pr:(Tryz.prog.info? 162).map (fun i=>i.zero.map Value.cells)=some (some ([.pointer none,.slice none 0 0,.bool false]:List Value).toArray):=by kernel_rfl
theorem put1_bytes{s:List Int×Bool}{t:List Int}(hs:∀ x ∈ s.1,0≤x∧x<256)(ht:∀ x ∈ t,0≤x∧x<256):∀ x ∈ (Zgu s t).1,0≤x∧x<256:=by
 intro x hx;unfold Zgu at hx;simp only at hx;rcases List.mem_append.1 hx with hx | hx
 ·rcases List.mem_append.1 hx with hx | hx
  ·exact hs x hx
  ·split at hx
   ·cases List.mem_singleton.1 hx;exact⟨by decide,by decide⟩
   ·cases hx
 ·exact ht x hx
theorem Zfg:∀(K:List ByteArray)(s:List Int×Bool),(∀ x ∈ s.1,0≤x∧x<256)→∀ x ∈ (Zt s K).1,0≤x∧x<256
 |[],s,h=>h
 |t::K,s,h=>Zfg K (Zgu s (bL t)) (put1_bytes h (Ziy t))
theorem PE.start{w x:World}{own:List Bk}{g:Nat}(h:Env w (own++[(g,162,[.pointer none,.slice none 0 0,.bool false])]) [] [] x):PE w g ([],false) own x:=
 ⟨.pointer none,.slice none 0 0,(h.perm (List.perm_append_singleton _ own)).row1 5 1,.inl rfl⟩
theorem qText{w0 x:World}{b:Nat}{st:List Int×Bool}{own:List Bk}(h:PE w0 b st own x)(hb:∀ x ∈ st.1,0≤x∧x<256)(hne:st.1≠[]) :
  Calls Tryz.prog 106 #[.pointer (some ⟨b,0,none⟩)] x fun e y=>e=.returned (.string (strOfNums st.1))∧Below w0.heap.size x y:=by
 obtain⟨a,v,h,u⟩:=h;have h0:(b,162,[a,v,.bool st.2]) ∈ (b,162,[a,v,Value.bool st.2])::own:=by simp
 have hr:=h.row _ (List.mem_singleton.2 rfl);have ha:=h.apart _ (List.mem_singleton.2 rfl);have hbd:Zas 162 [.bool st.2] w0.heap.size x b a v st.1:=⟨h.at_ _ h0,hr,h.lo _ h0,ha _ h0,u⟩
 have hm:(st.1.map fun n=>UInt8.ofNat n.toNat).map (fun x=>(x.toNat:Int))=st.1:=by
  rw[List.map_map];refine(List.map_congr_left fun n hn=>?_).trans (List.map_id _);have:=hb n hn;simp only[Function.comp,UInt8.toNat_ofNat',id];omega
 have e:=bdText (st.1.map fun n=>UInt8.ofNat n.toNat) (by simpa using hne) (by rw[hm];exact hbd);exact e
theorem formExpr(w:World)(vs:List Value)(hvl:vs.length=12)(K:List ByteArray)(hp:Wa w 74 (.agg vs.toArray) K)(hr:Xf ([],false) K)(hne:(Zt ([],false) K).1≠[]) :
  Calls Tryz.prog 73 #[.func (.func 74) #[] #[],.agg vs.toArray] w fun e y=>e=.returned (.string (strOfNums (Zt ([],false) K).1))∧Below w.heap.size w y:=by
 have hby:=Zfg K ([],false) (by simp);obtain⟨s1,E1⟩:∃ s,s=Zt ([],false) K:=⟨_,rfl⟩
 rw[←E1]at hby hne ⊢;have P1:=Hh (fun b own x=>hp.at_ (b:=b) E1 hr own x);have HVL:=Hh hvl;have HB:=Hh (And.intro hby hne);clear hby hne hp hr E1 hvl;have T:=Hh (Env.start w);go_enter Tryz.func73,Tryz.ntmps73;go_wp2_with(first
 |((with_reducible refine Ze 3 ?_);refine Zk T.out 51 _ vs rfl rfl rfl ?_;intro wn g0 tn;have T:=Hh tn;clear tn)
 |((with_reducible refine Ze 5 ?_);refine Zc T.out 162 ([.pointer none,.slice none 0 0,.bool false]) rfl rfl qz_pr ?_;intro wn b tn;have T:=Hh (PE.start (own:=[(g0,51,vs)]) tn);clear tn)
 |((with_reducible refine Ze 7 ?_);refine Zb 51 _ 51 g0 vs (T.out.get 0 rfl) Xg (by rw[HVL.out];exact Ys) rfl rfl rfl ?_)
 |(go_at_call 74;refine(P1.out _ _ _ T.out).mono ?_;rintro e wn ⟨rfl,tn⟩;have T:=Hh tn;clear tn)
 |(go_at_call 106;refine(qText T.out HB.out.1 HB.out.2).mono ?_;rintro e wn ⟨rfl,bn⟩;have B:=Hh (T.out.below.trans bn);clear bn))
 go_ret;exact⟨rfl,B.out⟩
theorem topExpr(w:World)(vs:List Value)(hvl:vs.length=12)(K:List ByteArray)(hp:∀ x,Below w.heap.size w x→Wa x 74 (.agg vs.toArray) K)(hr:Xf ([],false) K)(hne:(Zt ([],false) K).1≠[]) :
  Calls Tryz.prog 25 #[.agg vs.toArray] w fun e y=>e=.returned (.string (strOfNums (Zt ([],false) K).1))∧Below w.heap.size w y:=by
 have F1:=Hh (fun x (hb:Below w.heap.size w x)=>formExpr x vs hvl K (hp x hb) hr hne);have HVL:=Hh hvl;clear hp hr hne hvl;have T:=Hh (Env.start w);go_enter Tryz.func25,Tryz.ntmps25;go_wp2_with(first
 |((with_reducible refine Ze 1 ?_);refine Zk T.out 51 _ vs rfl rfl rfl ?_;intro wn g0 tn;have T:=Hh tn;clear tn)
 |((with_reducible refine Ze 3 ?_);refine Zb 51 _ 51 g0 vs (T.out.get 0 rfl) Xg (by rw[HVL.out];exact Ys) rfl rfl rfl ?_)
 |(go_at_call 73;refine(F1.out _ T.out.below).mono ?_;rintro e wn ⟨rfl,bn⟩;have T:=Hh (T.out.call bn);clear bn))
 go_ret;exact⟨rfl,T.out.below⟩
def sp(lo:Bool):List Int:=if lo=true then [32]else []
def Ut(k:List ByteArray)(l:List Int):Prop:=∀ s:List Int×Bool,Zt s k=(s.1++sp s.2++l,true)
def Zdr(k:List ByteArray)(l:List Int):Prop:=∀ s:List Int×Bool,s.2=true→Zt s k=(s.1++l,true)
def Zla(k:List ByteArray)(l:List Int):Prop:=∀ s:List Int×Bool,s.2=true→(Zt s k).1++[32]=s.1++32::l∧(Zt s k).2=true
def Zik(t:ByteArray):Bool:=decide (bL t≠[59]) && decide (bL t≠[41]) && decide (bL t≠[40])
theorem Zhp(s:List Int×Bool)(t:ByteArray):Zt s [t]=Zgu s (bL t):=rfl
theorem Vk{t:ByteArray}(h:Zik t=true):Ut [t] (bL t):=by
 intro s;unfold Zik at h;simp only[Bool.and_eq_true,decide_eq_true_eq]at h;obtain⟨⟨h1,h2⟩,h3⟩:=h;obtain⟨x,lo⟩:=s;rw[Zhp];unfold Zgu spB sp;cases lo<;>simp[h1,h2,h3]
theorem Ut.lead{k:List ByteArray}{l:List Int}(h:Ut k l):Zdr k (32::l):=by
 intro s hs;rw[h s,hs];simp[sp]
theorem Zdr.nil:Zdr [] []:=by
 intro s hs;obtain⟨x,lo⟩:=s;cases hs
 simp[Zt,Zff]
theorem Zdr.app{k1 k2:List ByteArray}{l1 l2:List Int}(h1:Zdr k1 l1)(h2:Zdr k2 l2):Zdr (k1++k2) (l1++l2):=by
 intro s hs;rw[Yn,h1 s hs,h2 _ rfl];simp
theorem Ut.then{k1 k2:List ByteArray}{l1 l2:List Int}(h1:Ut k1 l1)(h2:Zdr k2 l2):Ut (k1++k2) (l1++l2):=by
 intro s;rw[Yn,h1 s,h2 _ rfl];simp
theorem Ut.seq{k1 k2:List ByteArray}{l1 l2:List Int}(h1:Ut k1 l1)(h2:Ut k2 l2):Ut (k1++k2) (l1++32::l2):=h1.then h2.lead
theorem b_close:bL Ws=[41]:=by decide +kernel
theorem b_open:bL Wo=[40]:=by decide +kernel
theorem b_semi:bL Xi=[59]:=by decide +kernel
theorem Ut.close{k:List ByteArray}{l:List Int}(h:Ut k l):Ut (k++[Ws]) (l++[41]):=by
 intro s;rw[Yn,h s,Zhp,b_close];simp[Zgu,spB]
theorem Zdr.close{k:List ByteArray}{l:List Int}(h:Zdr k l):Zdr (k++[Ws]) (l++[41]):=by
 intro s hs;rw[Yn,h s hs,Zhp,b_close];simp[Zgu,spB]
theorem Ut.semi{k:List ByteArray}{l:List Int}(h:Ut k l):Ut (k++[Xi]) (l++[59]):=by
 intro s;rw[Yn,h s,Zhp,b_semi];simp[Zgu,spB]
theorem Ut.opened{k:List ByteArray}{l:List Int}(h:Ut k l):Ut ([Wo]++k) (40::l):=by
 intro s;obtain⟨x,lo⟩:=s;rw[Yn,Zhp,b_open,h];cases lo<;>simp[Zgu,spB,sp]
theorem Zla.nil:Zla [] []:=fun s hs=>⟨by simp[Zt,Zff],by simpa[Zt,Zff]using hs⟩
theorem Zla.cons{k1 k2:List ByteArray}{l1 l2:List Int}(h1:Ut k1 l1)(h2:Zla k2 l2):Zla (k1++k2) (l1++32::l2):=by
 intro s hs;rw[Yn,h1 s,hs];obtain⟨a,b⟩:=h2 (s.1++sp true++l1,true) rfl;refine⟨?_,b⟩;rw[a];simp[sp]
theorem puts_brace:bL Vj=[123]:=by decide +kernel
theorem puts_unbrace:bL Zam=[125]:=by decide +kernel
theorem Zla.block{k:List ByteArray}{l:List Int}(h:Zla k l):Ut ([Vj]++(k++[Zam])) (123::32::(l++[125])):=by
 intro s;rw[Yn,Vk (by decide +kernel:Zik Vj=true) s,Yn];obtain⟨a,b⟩:=h (s.1++sp s.2++bL Vj,true) rfl;generalize Zt (s.1++sp s.2++bL Vj,true) k=q at *;obtain⟨x,lo⟩:=q;cases b
 rw[Vk (by decide +kernel:Zik Zam=true)];rw[puts_brace]at a;rw[puts_unbrace];simp only at a ⊢;have e:sp true=[32]:=rfl;rw[e,a];simp
theorem Zaf:∀ ws:List ByteArray,(ws.all Zik=true)→∀ k:Int,1≤k→k≤ws.length→Zik (wd ws k)=true:=by
 intro ws h k h1 h2;have hl:k.toNat - 1<ws.length:=by omega
 have e:wd ws k=ws[k.toNat - 1]:=by unfold wd;rw[List.getElem?_eq_getElem hl];rfl
 rw[e];exact List.all_eq_true.1 h _ (List.getElem_mem hl)
theorem pw_sel{k:Int}(h1:1≤k)(h2:k≤2):Ut [wd Ym k] (bL (wd Ym k)):=by
 have h:k=1∨k=2:=by omega
 rcases h with rfl | rfl
 ·exact Vk (by decide +kernel)
 ·exact Vk (by decide +kernel)
theorem Zij{k:Int}(h:1≤k∧k≤3):Ut [wd Zg k] (bL (wd Zg k)):=Vk (Zaf Zg (by decide +kernel) k h.1 (by show _≤((3:Nat):Int);omega))
theorem pw_where{k:Int}(h:1≤k∧k≤4):Ut [wd Zw k] (bL (wd Zw k)):=Vk (Zaf Zw (by decide +kernel) k h.1 (by show _≤((4:Nat):Int);omega))
theorem Zmx{k:Int}(h:1≤k∧k≤4):Ut [wd Ye k] (bL (wd Ye k)):=Vk (Zaf Ye (by decide +kernel) k h.1 (by show _≤((4:Nat):Int);omega))
theorem pw_meit{k:Int}(h:1≤k∧k≤2):Ut [wd Vb k] (bL (wd Vb k)):=Vk (Zaf Vb (by decide +kernel) k h.1 (by show _≤((2:Nat):Int);omega))
theorem pw_pick{k:Int}(h:1≤k∧k≤5):Ut [wd Wm k] (bL (wd Wm k)):=Vk (Zaf Wm (by decide +kernel) k h.1 (by show _≤((5:Nat):Int);omega))
theorem pw_to{k:Int}(h:1≤k∧k≤4):Ut [wd wTo k] (bL (wd wTo k)):=Vk (Zaf wTo (by decide +kernel) k h.1 (by show _≤((4:Nat):Int);omega))
theorem pw_how{k:Int}(h:1≤k∧k≤4):Ut [wd Zcl k] (bL (wd Zcl k)):=Vk (Zaf Zcl (by decide +kernel) k h.1 (by show _≤((4:Nat):Int);omega))
theorem pw_op{k:Int}(h:1≤k∧k≤6):Ut [wd wOp k] (bL (wd wOp k)):=Vk (Zaf wOp (by decide +kernel) k h.1 (by show _≤((6:Nat):Int);omega))
theorem Zop{k:Int}(h:1≤k∧k≤5):Ut [wd Yy k] (bL (wd Yy k)):=Vk (Zaf Yy (by decide +kernel) k h.1 (by show _≤((5:Nat):Int);omega))
theorem pw_act{k:Int}(h:1≤k∧k≤15):Ut [wd Xo k] (bL (wd Xo k)):=Vk (Zaf Xo (by decide +kernel) k h.1 (by show _≤((15:Nat):Int);omega))
theorem pw_num{n:Int}(h1 : -99≤n)(h2:n≤99):Ut [Wl n] (Ziz n):=by
 have h:∀ i:Fin 199,Zik (Wl ((i.val:Nat) - 99:Int))=true∧bL (Wl ((i.val:Nat) - 99:Int))=Ziz ((i.val:Nat) - 99:Int):=by decide +kernel
 have:=h ⟨(n+99).toNat,by omega⟩;rw[show(((n+99).toNat:Nat) - 99:Int)=n from by omega]at this;have p:=Vk this.1;rwa [this.2]at p
theorem bL_appQ(s t:ByteArray):bL (s++t)=bL s++bL t:=by
 have h1:=Ziy s;have h2:=Ziy t
 have e:strOfNums (bL s++bL t)=s++t:=by
  conv=>rhs;rw[←Zgl s,←Zgl t]
  unfold strOfNums;apply ByteArray.ext;simp[ByteArray.data_append]
 rw[←e];exact Zll _ (by intro x hx;rcases List.mem_append.1 hx with hx | hx;exact h1 x hx;exact h2 x hx)
theorem pw_name(nm:ByteArray):Ut [qN nm] (Znv nm):=by
 have e:bL (qN nm)=Znv nm:=by
  unfold qN Znv;rw[bL_appQ,bL_appQ,show bL (⟨#[34]⟩:ByteArray)=[34]from by decide +kernel];simp
 have hp:Zik (qN nm)=true:=by
  unfold Zik;rw[e];unfold Znv;simp
 have:=Vk hp;rwa [e]at this
theorem pk_fl{f:Fl}(hv:VFl f):Ut (kFl f) (lFl f):=by
 unfold kFl lFl;rcases hv with⟨hk,ho,hn,_⟩ | ⟨hk,_,_,hm⟩ | ⟨hk,_⟩
 ·simp only[if_pos hk]
  exact(Zmx (k:=f.kind) (by omega)).seq ((pw_op ho).seq (pw_num hn.1 hn.2))
 ·have n1:¬(f.kind=1∨f.kind=2):=by omega
  simp only[if_neg n1,if_pos hk];exact(Zmx (by decide)).seq (pw_name _)
 ·have n1:¬(f.kind=1∨f.kind=2):=by omega
  have n2:¬ f.kind=3:=by omega
  simp only[if_neg n1,if_neg n2];exact(Zmx (by decide)).seq (pw_meit (by omega))
theorem pk_fls:∀{l:List Fl},(∀ f ∈ l,VFl f)→Zdr (Zoh l) (lFls l)
 |[],_=>Zdr.nil
 |f::l,h=>(pk_fl (h f (by simp))).lead.app (pk_fls fun g hg=>h g (by simp[hg]))
theorem Zjs{s:Se}(hv:VSe s):Ut (Zgs s) (lSel s):=by
 unfold Zgs lSel;rcases hv with⟨hk,_⟩ | ⟨hk,h1,h2,h3,h4,h5,h6⟩
 ·simp only[if_pos hk]
  exact pw_sel (by omega) (by omega)
 ·have n1:¬(s.kind=1∨s.kind=2):=by omega
  simp only[if_neg n1]
  have hl:Zdr (if s.wh=3 then [Wl s.lane]else []) (if s.wh=3 then 32::Ziz s.lane else []):=by
   split
   ·exact(pw_num (by omega) (by omega)).lead
   ·exact Zdr.nil
  have hp:Zdr ([wd Wm s.pick]++[Ws]) (32::(bL (wd Wm s.pick)++[41])):=(pw_pick h6).lead.close;have:=((Zij h1).then (((pw_where h2).lead.app (hl.app ((pk_fls h5).app hp))))).opened
  have e1:([⟨#[40]⟩]++[wd Zg s.side,wd Zw s.wh]++(if s.wh=3 then [Wl s.lane]else [])++Zoh s.fs++[wd Wm s.pick,⟨#[41]⟩]:List ByteArray)=[Wo]++([wd Zg s.side]++([wd Zw s.wh]++((if s.wh=3 then [Wl s.lane]else [])++(Zoh s.fs++([wd Wm s.pick]++[Ws]))))):=by
   simp[Wo,Ws]
  rw[e1];simpa using this
theorem pk_to{k l:Int}(hv:VTo k l):Ut (kTo k l) (lTo k l):=by
 unfold kTo lTo;rcases hv with⟨hk,_⟩ | ⟨rfl,hl⟩
 ·have n1:¬ k=4:=by omega
  simp only[if_neg n1,List.append_nil];exact pw_to (by omega)
 ·simp only[if_true]
  exact(pw_to (by decide)).seq (pw_num (by omega) (by omega))
theorem pk_leaf{kind n:Int}{sel:Se}{side tk tl:Int}(hv:VLeaf kind n sel side tk tl):Ut (kLeaf kind n sel side tk tl) (lLeaf kind n sel side tk tl):=by
 unfold kLeaf lLeaf;rcases hv with⟨hk,hn,_⟩ | ⟨hk,_,hs,_⟩ | ⟨hk,_⟩ | ⟨hk,_,_,hs,_⟩ | ⟨hk,_,_,hs,ht⟩
 ·simp only[if_pos hk];exact pw_num hn.1 hn.2
 ·have n1:¬ kind=1:=by omega
  simp only[if_neg n1,if_pos hk];exact(Zop (by omega)).seq (Zjs hs)
 ·have n1:¬ kind=1:=by omega
  have n2:¬(kind=2∨kind=3):=by omega
  simp only[if_neg n1,if_neg n2,if_pos hk];exact Zop (by decide)
 ·have n1:¬ kind=1:=by omega
  have n2:¬(kind=2∨kind=3):=by omega
  have n3:¬ kind=4:=by omega
  simp only[if_neg n1,if_neg n2,if_neg n3,if_pos hk];exact(Zop (by decide)).seq (Zij hs)
 ·have n1:¬ kind=1:=by omega
  have n2:¬(kind=2∨kind=3):=by omega
  have n3:¬ kind=4:=by omega
  have n4:¬ kind=5:=by omega
  simp only[if_neg n1,if_neg n2,if_neg n3,if_neg n4];exact(Zop (by decide)).seq ((Zij hs).seq (pk_to ht))
theorem pk_b{b:Bool}{k:List ByteArray}{l:List Int}(h:Ut k l):Ut (kB b k) (lB b l):=by
 unfold kB lB;split
 ·exact h.close.opened
 ·exact h
theorem pw_sign{op:Int}(h1:1≤op)(h2:op≤3):Ut [wd Zlr op] [cOp op]:=by
 have h:op=1∨op=2∨op=3:=by omega
 rcases h with rfl | rfl | rfl
 ·exact Vk (t:=⟨#[43]⟩) (by decide +kernel)
 ·exact Vk (t:=⟨#[45]⟩) (by decide +kernel)
 ·exact Vk (t:=⟨#[42]⟩) (by decide +kernel)
theorem Zjt:∀ x:Ex,VEx x→Ut (kEx x) (lE x)
 |.leaf kind n sel side tk tl,hv=>pk_leaf hv
 |.bin op l r,hv=>(pk_b (b:=Zap false op l) (Zjt l hv.2.1)).seq ((pw_sign hv.1.1 hv.1.2).seq (pk_b (b:=Zap true op r) (Zjt r hv.2.2)))
theorem pk_args{h:AH}{d:Nat}(hv:Zfq d h):Ut (Zck h) (lArgs h):=by
 unfold Zck lArgs;rcases hv with⟨hk,_,v1,v2,_⟩ | ⟨hk,_,v1⟩ | ⟨hk,_,v1,v2⟩ | ⟨hk,_,v1,v2,v3,v4,_⟩ | ⟨hk,_,v1,v2,_⟩ | ⟨hk,_,v1,v2⟩ | ⟨hk,_,v1,v2⟩
 ·simp only[if_pos hk]
  exact(Zjs v1).seq (Zjt _ v2)
 ·have n1:¬(h.kind=1∨h.kind=2∨h.kind=12):=by omega
  simp only[if_neg n1,if_pos hk];exact Zjs v1
 ·have n1:¬(h.kind=1∨h.kind=2∨h.kind=12):=by omega
  have n2:¬(h.kind=3∨h.kind=5∨h.kind=14):=by omega
  simp only[if_neg n1,if_neg n2,if_pos hk];exact(Zjs v1).seq (pk_to v2)
 ·have n1:¬(h.kind=1∨h.kind=2∨h.kind=12):=by omega
  have n2:¬(h.kind=3∨h.kind=5∨h.kind=14):=by omega
  have n3:¬(h.kind=4):=by omega
  simp only[if_neg n1,if_neg n2,if_neg n3,if_pos hk];exact(pw_name _).seq ((Zij v2).seq ((pk_to v3).seq (Zjt _ v4)))
 ·have n1:¬(h.kind=1∨h.kind=2∨h.kind=12):=by omega
  have n2:¬(h.kind=3∨h.kind=5∨h.kind=14):=by omega
  have n3:¬(h.kind=4):=by omega
  have n4:¬(h.kind=6):=by omega
  simp only[if_neg n1,if_neg n2,if_neg n3,if_neg n4,if_pos hk];exact(Zij v1).seq (Zjt _ v2)
 ·have n1:¬(h.kind=1∨h.kind=2∨h.kind=12):=by omega
  have n2:¬(h.kind=3∨h.kind=5∨h.kind=14):=by omega
  have n3:¬(h.kind=4):=by omega
  have n4:¬(h.kind=6):=by omega
  have n5:¬(h.kind=7∨h.kind=9):=by omega
  simp only[if_neg n1,if_neg n2,if_neg n3,if_neg n4,if_neg n5,if_pos hk];exact(Zij v1).seq (pw_how v2)
 ·have n1:¬(h.kind=1∨h.kind=2∨h.kind=12):=by omega
  have n2:¬(h.kind=3∨h.kind=5∨h.kind=14):=by omega
  have n3:¬(h.kind=4):=by omega
  have n4:¬(h.kind=6):=by omega
  have n5:¬(h.kind=7∨h.kind=9):=by omega
  have n6:¬(h.kind=8):=by omega
  simp only[if_neg n1,if_neg n2,if_neg n3,if_neg n4,if_neg n5,if_neg n6];exact(Zij v1).seq (pk_to v2)
theorem pw_else:Ut [Ug] (bL Ug):=Vk (by decide +kernel)
theorem Zgz:∀(x:Acs)(d:Nat),Um d x→Zla (Vd x) (Zah x)
 |.nil,d,_=>Zla.nil
 |.cons h t e r,d,hv=>by
  have hk:=Znl hv;obtain⟨v,vr⟩:=hv;rw[Vd,Zah];refine Zla.cons ?_ (Zgz r d vr);unfold kAct lAct;refine(pw_act hk).seq ?_;rcases v with⟨_,vc,vt,ve⟩ | ⟨_,vc,vt,rfl⟩ | ⟨vp,rfl,rfl⟩
  ·have h10:=vc.kind
   simp only[if_pos h10];have it:=(Zgz t _ vt).block;have ie:=(Zgz e _ ve).block
   have el:Zdr (Zjw e.isNil (Vd e)) (lElse e.isNil (Zah e)):=by
    unfold Zjw lElse;split
    ·exact Zdr.nil
    ·exact(pw_else.seq ie).lead
   have hc:Ut (Znx h) (lE h.cl++32::(bL (wd wOp h.cop)++32::lE h.cr)):=(Zjt _ vc.2.2.1.1).seq ((pw_op vc.2.1).seq (Zjt _ vc.2.2.2.1));have:=hc.seq (it.then el);simpa[Zne,Zmh]using this
  ·have h11:=vc.kind
   have n10:¬ h.kind=10:=by omega
   simp only[if_neg n10,if_pos h11];exact(Zjs vc.2).seq (Zgz t _ vt).block
  ·have hkp:=vp.kind.2.2
   simp only[if_neg hkp.1,if_neg hkp.2];exact(pk_args vp).semi
theorem bdText0{T:TypeId}{rest:List Value}{B:Nat}{w:World}{b:Nat}{a v:Value}(h:Zas T rest B w b a v []) :
  Calls Tryz.prog 106 #[.pointer (some ⟨b,0,none⟩)] w fun e w'=>e=.returned (.string .empty)∧Below B w w':=by
 have hown:=h.row;have hbi:b<w.heap.size:=h.whole.inside;have hB:B≤w.heap.size:=by have:=h.lo;omega
 have c1:w.cell? ⟨b,1,none⟩=some v:=by rw[h.whole.read];rfl
 have hUS:∀ p,(Builtin.unsafeString_ #[206,3] 9 #[.pointer p,.int .i64 0]).run Tryz.prog w.drew=.ok (.string .empty) w.drew:=fun p=>Lib.run_unsafeString_none _ _ _ _ p
 rcases hown.2 with⟨rfl,hz⟩ | ⟨g,cap,cur,rfl,hbg,hg,hnc,hcm,hcs,htake⟩
 ·have hSD:(Builtin.unsafeSliceData_ #[158] 206 #[.slice none 0 0]).run Tryz.prog w.drew=.ok (.pointer none) w.drew:=rfl
  clear hown h;go_enter Tryz.func106,Tryz.ntmps106;go_wp2
  go_region
  all_goals(go_wp2;go_ret;exact⟨rfl,Below.drew (Below.refl B w)⟩)
 ·by_cases hc:cap=0
  ·subst hc
   have hsh:w.drew.shape? g=some (5,cur.size):=by
    have hg':w.drew.heap[g]?=some (.cells cur 5 (0,0)):=hg;simp[World.shape?,hg']
   have hSD:=Lib.run_unsafeSliceData_zero (P:=Tryz.prog) w.drew #[158] 206 5 Tryz.underlying206 ⟨g,0,none⟩ 0 _ hsh;have hUS2:=Lib.run_unsafeString_none (P:=Tryz.prog) (w.alloc (.view ⟨g,0,none⟩ 5)).drew 206 3 9 (some ⟨w.heap.size,0,none⟩);clear hown h htake hcs hg hsh;go_enter Tryz.func106,Tryz.ntmps106;go_wp2
   go_region
   all_goals(go_wp2;go_ret;exact⟨rfl,Below.drew ((Below.refl B w).alloc hB _)⟩)
  ·have hSD:(Builtin.unsafeSliceData_ #[158] 206 #[.slice (some ⟨g,0,none⟩) 0 cap]).run Tryz.prog w.drew=.ok (.pointer (some ⟨g,0,none⟩)) w.drew:=
    Lib.run_unsafeSliceData_row _ _ _ _ _ _ hc
   clear hown h htake hcs hg;go_enter Tryz.func106,Tryz.ntmps106;go_wp2
   go_region
   all_goals(go_wp2;go_ret;exact⟨rfl,Below.drew (Below.refl B w)⟩)
theorem qTextE{w0 x:World}{b:Nat}{st:List Int×Bool}{own:List Bk}(h:PE w0 b st own x)(hb:∀ x ∈ st.1,0≤x∧x<256) :
  Calls Tryz.prog 106 #[.pointer (some ⟨b,0,none⟩)] x fun e y=>e=.returned (.string (strOfNums st.1))∧Below w0.heap.size x y:=by
 by_cases hne:st.1=[]
 ·obtain⟨a,v,h,u⟩:=h
  have h0:(b,162,[a,v,.bool st.2]) ∈ (b,162,[a,v,Value.bool st.2])::own:=by simp
  have hr:=h.row _ (List.mem_singleton.2 rfl);have ha:=h.apart _ (List.mem_singleton.2 rfl);have hbd:Zas 162 [.bool st.2] w0.heap.size x b a v st.1:=⟨h.at_ _ h0,hr,h.lo _ h0,ha _ h0,u⟩
  rw[hne]at hbd ⊢;exact bdText0 hbd
 ·exact qText h hb hne
theorem formExprE(w:World)(vs:List Value)(hvl:vs.length=12)(K:List ByteArray)(hp:Wa w 74 (.agg vs.toArray) K)(hr:Xf ([],false) K) :
  Calls Tryz.prog 73 #[.func (.func 74) #[] #[],.agg vs.toArray] w fun e y=>e=.returned (.string (strOfNums (Zt ([],false) K).1))∧Below w.heap.size w y:=by
 have hby:=Zfg K ([],false) (by simp);obtain⟨s1,E1⟩:∃ s,s=Zt ([],false) K:=⟨_,rfl⟩
 rw[←E1]at hby ⊢;have P1:=Hh (fun b own x=>hp.at_ (b:=b) E1 hr own x);have HVL:=Hh hvl;have HB:=Hh hby;clear hby hp hr E1 hvl;have T:=Hh (Env.start w);go_enter Tryz.func73,Tryz.ntmps73;go_wp2_with(first
 |((with_reducible refine Ze 3 ?_);refine Zk T.out 51 _ vs rfl rfl rfl ?_;intro wn g0 tn;have T:=Hh tn;clear tn)
 |((with_reducible refine Ze 5 ?_);refine Zc T.out 162 ([.pointer none,.slice none 0 0,.bool false]) rfl rfl qz_pr ?_;intro wn b tn;have T:=Hh (PE.start (own:=[(g0,51,vs)]) tn);clear tn)
 |((with_reducible refine Ze 7 ?_);refine Zb 51 _ 51 g0 vs (T.out.get 0 rfl) Xg (by rw[HVL.out];exact Ys) rfl rfl rfl ?_)
 |(go_at_call 74;refine(P1.out _ _ _ T.out).mono ?_;rintro e wn ⟨rfl,tn⟩;have T:=Hh tn;clear tn)
 |(go_at_call 106;refine(qTextE T.out HB.out).mono ?_;rintro e wn ⟨rfl,bn⟩;have B:=Hh (T.out.below.trans bn);clear bn))
 go_ret;exact⟨rfl,B.out⟩
theorem topExprE(w:World)(vs:List Value)(hvl:vs.length=12)(K:List ByteArray)(hp:∀ x,Below w.heap.size w x→Wa x 74 (.agg vs.toArray) K)(hr:Xf ([],false) K) :
  Calls Tryz.prog 25 #[.agg vs.toArray] w fun e y=>e=.returned (.string (strOfNums (Zt ([],false) K).1))∧Below w.heap.size w y:=by
 have F1:=Hh (fun x (hb:Below w.heap.size w x)=>formExprE x vs hvl K (hp x hb) hr);have HVL:=Hh hvl;clear hp hr hvl;have T:=Hh (Env.start w);go_enter Tryz.func25,Tryz.ntmps25;go_wp2_with(first
 |((with_reducible refine Ze 1 ?_);refine Zk T.out 51 _ vs rfl rfl rfl ?_;intro wn g0 tn;have T:=Hh tn;clear tn)
 |((with_reducible refine Ze 3 ?_);refine Zb 51 _ 51 g0 vs (T.out.get 0 rfl) Xg (by rw[HVL.out];exact Ys) rfl rfl rfl ?_)
 |(go_at_call 73;refine(F1.out _ T.out.below).mono ?_;rintro e wn ⟨rfl,bn⟩;have T:=Hh (T.out.call bn);clear bn))
 go_ret;exact⟨rfl,T.out.below⟩
theorem formActsE(w:World)(v:Value)(K:List ByteArray)(hp:Wa w 71 v K)(hr:Xf ([],false) K) :
  Calls Tryz.prog 70 #[.func (.func 71) #[] #[],v] w fun e y=>e=.returned (.string (strOfNums (Zt ([],false) K).1))∧Below w.heap.size w y:=by
 have hby:=Zfg K ([],false) (by simp);obtain⟨s1,E1⟩:∃ s,s=Zt ([],false) K:=⟨_,rfl⟩
 rw[←E1]at hby ⊢;have P1:=Hh (fun b own x=>hp.at_ (b:=b) E1 hr own x);have HB:=Hh hby;clear hby hp hr E1;have T:=Hh (Env.start w);go_enter Tryz.func70,Tryz.ntmps70;go_wp2_with(first
 |((with_reducible refine Ze 5 ?_);refine Zc T.out 162 ([.pointer none,.slice none 0 0,.bool false]) rfl rfl qz_pr ?_;intro wn b tn;have T:=Hh (PE.start (own:=[]) tn);clear tn)
 |(go_at_call 71;refine(P1.out _ _ _ T.out).mono ?_;rintro e wn ⟨rfl,tn⟩;have T:=Hh tn;clear tn)
 |(go_at_call 106;refine(qTextE T.out HB.out).mono ?_;rintro e wn ⟨rfl,bn⟩;have B:=Hh (T.out.below.trans bn);clear bn))
 go_ret;exact⟨rfl,B.out⟩
theorem topActsE(w:World)(v:Value)(K:List ByteArray)(hp:Wa w 71 v K)(hr:Xf ([],false) K) :
  Calls Tryz.prog 23 #[v] w fun e y=>e=.returned (.string (strOfNums (Zt ([],false) K).1))∧Below w.heap.size w y:=by
 have F1:=Hh (formActsE w v K hp hr);clear hp hr;go_enter Tryz.func23,Tryz.ntmps23;go_wp2_with(go_at_call 70;refine F1.out.mono ?_;rintro e wn ⟨rfl,bn⟩)
 go_ret;exact⟨rfl,bn⟩
theorem formSelE(w:World)(vs:List Value)(hvl:vs.length=6)(K:List ByteArray)(hp:Wa w 65 (.agg vs.toArray) K)(hr:Xf ([],false) K) :
  Calls Tryz.prog 64 #[.func (.func 65) #[] #[],.agg vs.toArray] w fun e y=>e=.returned (.string (strOfNums (Zt ([],false) K).1))∧Below w.heap.size w y:=by
 have hby:=Zfg K ([],false) (by simp);obtain⟨s1,E1⟩:∃ s,s=Zt ([],false) K:=⟨_,rfl⟩
 rw[←E1]at hby ⊢;have P1:=Hh (fun b own x=>hp.at_ (b:=b) E1 hr own x);have HVL:=Hh hvl;have HB:=Hh hby;clear hby hp hr E1 hvl;have T:=Hh (Env.start w);go_enter Tryz.func64,Tryz.ntmps64;go_wp2_with(first
 |((with_reducible refine Ze 3 ?_);refine Zk T.out 46 _ vs rfl rfl rfl ?_;intro wn g0 tn;have T:=Hh tn;clear tn)
 |((with_reducible refine Ze 5 ?_);refine Zc T.out 162 ([.pointer none,.slice none 0 0,.bool false]) rfl rfl qz_pr ?_;intro wn b tn;have T:=Hh (PE.start (own:=[(g0,46,vs)]) tn);clear tn)
 |((with_reducible refine Ze 7 ?_);refine Zb 46 _ 46 g0 vs (T.out.get 0 rfl) Wu (by rw[HVL.out];exact Wc) rfl rfl rfl ?_)
 |(go_at_call 65;refine(P1.out _ _ _ T.out).mono ?_;rintro e wn ⟨rfl,tn⟩;have T:=Hh tn;clear tn)
 |(go_at_call 106;refine(qTextE T.out HB.out).mono ?_;rintro e wn ⟨rfl,bn⟩;have B:=Hh (T.out.below.trans bn);clear bn))
 go_ret;exact⟨rfl,B.out⟩
theorem topSelE(w:World)(vs:List Value)(hvl:vs.length=6)(K:List ByteArray)(hp:∀ x,Below w.heap.size w x→Wa x 65 (.agg vs.toArray) K)(hr:Xf ([],false) K) :
  Calls Tryz.prog 21 #[.agg vs.toArray] w fun e y=>e=.returned (.string (strOfNums (Zt ([],false) K).1))∧Below w.heap.size w y:=by
 have F1:=Hh (fun x (hb:Below w.heap.size w x)=>formSelE x vs hvl K (hp x hb) hr);have HVL:=Hh hvl;clear hp hr hvl;have T:=Hh (Env.start w);go_enter Tryz.func21,Tryz.ntmps21;go_wp2_with(first
 |((with_reducible refine Ze 1 ?_);refine Zk T.out 46 _ vs rfl rfl rfl ?_;intro wn g0 tn;have T:=Hh tn;clear tn)
 |((with_reducible refine Ze 3 ?_);refine Zb 46 _ 46 g0 vs (T.out.get 0 rfl) Wu (by rw[HVL.out];exact Wc) rfl rfl rfl ?_)
 |(go_at_call 64;refine(F1.out _ T.out.below).mono ?_;rintro e wn ⟨rfl,bn⟩;have T:=Hh (T.out.call bn);clear bn))
 go_ret;exact⟨rfl,T.out.below⟩
theorem puts_at{k:List ByteArray}{l:List Int}(h:Ut k l):(Zt ([],false) k).1=l:=by rw[h];simp[sp]
theorem puts_size{k:List ByteArray}{l:List Int}(h:Ut k l):l.length≤Vg k:=by
 have:=Zmy k ([],false);rw[puts_at h]at this;simpa using this
theorem pk_act{d:Nat}{h:AH}{t e:Acs}(hv:Um d (.cons h t e .nil)):Ut (kAct h (Vd t) (Vd e) e.isNil) (lAct h (Zah t) (Zah e) e.isNil):=by
 have hk:=Znl hv;obtain⟨v,vr⟩:=hv;unfold kAct lAct;refine(pw_act hk).seq ?_;rcases v with⟨_,vc,vt,ve⟩ | ⟨_,vc,vt,rfl⟩ | ⟨vp,rfl,rfl⟩
 ·have h10:=vc.kind
  simp only[if_pos h10];have it:=(Zgz t _ vt).block;have ie:=(Zgz e _ ve).block
  have el:Zdr (Zjw e.isNil (Vd e)) (lElse e.isNil (Zah e)):=by
   unfold Zjw lElse;split
   ·exact Zdr.nil
   ·exact(pw_else.seq ie).lead
  have hc:Ut (Znx h) (lE h.cl++32::(bL (wd wOp h.cop)++32::lE h.cr)):=(Zjt _ vc.2.2.1.1).seq ((pw_op vc.2.1).seq (Zjt _ vc.2.2.2.1));have:=hc.seq (it.then el);simpa[Zne,Zmh]using this
 ·have h11:=vc.kind
  have n10:¬ h.kind=10:=by omega
  simp only[if_neg n10,if_pos h11];exact(Zjs vc.2).seq (Zgz t _ vt).block
 ·have hkp:=vp.kind.2.2
  simp only[if_neg hkp.1,if_neg hkp.2];exact(pk_args vp).semi
theorem acts_text:∀{x:Acs}{d:Nat},Um d x→(Zt ([],false) (Vd x)).1=bL (Zbl 0 x ⟨#[]⟩)
 |.nil,d,hv=>by decide +kernel
 |.cons h t e r,d,hv=>by
  have h1:=pk_act (d:=d) (h:=h) (t:=t) (e:=e) ⟨hv.1,trivial⟩;have h2:=Zgz r d hv.2;have h3:=rzActG_is (.cons h t e r) d 0 ⟨#[]⟩ hv rfl;rw[show bL (⟨#[]⟩:ByteArray)=[]from by decide +kernel]at h3
  have e1:Zt ([],false) (Vd (.cons h t e r))=Zt (lAct h (Zah t) (Zah e) e.isNil,true) (Vd r):=by
   rw[Vd,Yn,h1];simp[sp]
  have h4:=(h2 (lAct h (Zah t) (Zah e) e.isNil,true) rfl).1;rw[←e1]at h4;have h5:Zah (.cons h t e r)=lAct h (Zah t) (Zah e) e.isNil++32::Zah r:=rfl
  have h6:(Zt ([],false) (Vd (.cons h t e r))).1++[32]=bL (Zbl 0 (.cons h t e r) ⟨#[]⟩)++[32]:=by
   rw[h3,h5,h4];simp
  exact List.append_cancel_right h6
theorem acts_size{x:Acs}{d:Nat}(hv:Um d x):(Zbl 0 x ⟨#[]⟩).size≤Vg (Vd x):=by
 have h:=Zmy (Vd x) ([],false);rw[acts_text hv,Vm]at h;simpa using h
theorem tSelP(w:World)(N:Nat→Prop)(s:Se)(hv:VSe s)(hb:Vg (Zgs s)≤10000000000)(vs:List Value)(hd:Zu N w s.ds vs) :
  Calls Tryz.prog 21 #[.agg vs.toArray] w fun e y=>e=.returned (.string (Zdm s))∧Below w.heap.size w y:=by
 have h:=topSelE w vs (by rw[hd.len];exact Se.ds_len s) (Zgs s) (fun x hb=>pSel x N s hv vs (hd.below hb)) (by unfold Xf;show 0+_≤_;omega);rw[puts_at (Zjs hv),←Zez hv,Zgl]at h;exact h
theorem tExprP(w:World)(N:Nat→Prop)(x:Ex)(hv:VEx x)(hb:Vg (kEx x)≤10000000000)(vs:List Value)(hd:Zu N w x.ds vs) :
  Calls Tryz.prog 25 #[.agg vs.toArray] w fun e y=>e=.returned (.string (Zfn x))∧Below w.heap.size w y:=by
 have h:=topExprE w vs (by rw[hd.len];exact Ex.ds_len x) (kEx x) (fun y hb=>pEx y N x hv vs (hd.below hb)) (by unfold Xf;show 0+_≤_;omega);rw[puts_at (Zjt x hv),←Zfy x hv,Zgl]at h;exact h
theorem tActsP(w:World)(N:Nat→Prop)(x:Acs)(hv:Um 0 x)(hb:Vg (Vd x)≤10000000000)(v:Value)(hd:Zu N w (.row x.len x.ds .nil) [v]) :
  Calls Tryz.prog 23 #[v] w fun e y=>e=.returned (.string (Zbl 0 x ⟨#[]⟩))∧Below w.heap.size w y:=by
 have h:=topActsE w v (Vd x) (pActs w N 0 x hv v hd) (by unfold Xf;show 0+_≤_;omega);rw[acts_text hv,Zgl]at h;exact h
theorem sel_small{s:Se}(hv:VSe s)(hb:Vg (Zgs s)≤10000000000):(Zdm s).size≤10000000000:=by
 have:=puts_size (Zjs hv);rw[size_of (Zez hv)];omega
theorem ex_small{x:Ex}(hv:VEx x)(hb:Vg (kEx x)≤10000000000):(Zfn x).size≤10000000000:=by
 have:=puts_size (Zjt x hv);rw[size_of (Zfy x hv)];omega
theorem act_sel{d:Nat}{h:AH}{t e:Acs}(hv:Um d (.cons h t e .nil))(hk:0<h.sel.kind):VSe h.sel∧Vg (Zgs h.sel)≤Vg (kAct h (Vd t) (Vd e) e.isNil):=by
 have kz:zSe.kind=0:=rfl;obtain⟨v,vr⟩:=hv;unfold kAct;rcases v with⟨_,vc,vt,ve⟩ | ⟨_,vc,vt,rfl⟩ | ⟨vp,rfl,rfl⟩
 ·exfalso
  have e1:h.sel=zSe:=(congrArg AH.sel vc.1 :)
  rw[e1]at hk;omega
 ·have h11:=vc.kind
  rw[if_neg (by omega),if_pos h11];simp only[Xs];exact⟨vc.2,by omega⟩
 ·have hkp:=vp.kind.2.2
  rw[if_neg hkp.1,if_neg hkp.2];simp only[Xs];unfold Zck;rcases vp with⟨hk2,_,v1,v2,_⟩ | ⟨hk2,_,v1⟩ | ⟨hk2,_,v1,v2⟩ | ⟨hk2,e0,_⟩ | ⟨hk2,e0,_⟩ | ⟨hk2,e0,_⟩ | ⟨hk2,e0,_⟩
  ·rw[if_pos hk2,Xs];exact⟨v1,by omega⟩
  ·rw[if_neg (by omega),if_pos hk2];exact⟨v1,by omega⟩
  ·rw[if_neg (by omega),if_neg (by omega),if_pos hk2,Xs];exact⟨v1,by omega⟩
  all_goals
   exfalso;have e1:h.sel=zSe:=(congrArg AH.sel e0 :)
   rw[e1]at hk;omega
theorem Zod:∀(x:Acs)(m:Nat)(u:AH×Acs×Acs),x.at? m=some u→Vg (kAct u.1 (Vd u.2.1) (Vd u.2.2) u.2.2.isNil)≤Vg (Vd x)
 |.nil,m,u,h=>by cases m<;>cases h
 |.cons h t e r,0,u,hu=>by
  have hu:some (h,t,e)=some u:=hu;injection hu with hu;subst hu;rw[Vd,Xs];exact Nat.le_add_right _ _
 |.cons h t e r,m+1,u,hu=>by
  have:=Zod r m u hu;rw[Vd,Xs];omega
def l12T:ByteArray:=⟨#[49,32,45,32,40,50,32,45,32,51,41,32,42,32,40,52,41]⟩
def l12E:Ex:=.bin 2 (.leaf 1 1 zSe 0 0 0) (.bin 3 (.bin 2 (.leaf 1 2 zSe 0 0 0) (.leaf 1 3 zSe 0 0 0)) (.leaf 1 4 zSe 0 0 0))
theorem l12_is:Zkb 5 l12T=(l12E,okF):=by kernel_rfl
theorem l12_text:strOfNums (Zt ([],false) (kEx l12E)).1=⟨#[49,32,45,32,40,50,32,45,32,51,41,32,42,32,52]⟩:=by kernel_rfl
theorem Zmf(n:Int)(h1 : -99≤n)(h2:n≤99):VEx (.leaf 1 n zSe 0 0 0):=.inl ⟨rfl,⟨h1,h2⟩,rfl,rfl,rfl,rfl⟩
theorem l12_val:VEx l12E:=⟨by decide,Zmf 1 (by decide) (by decide),by decide,⟨by decide,Zmf 2 (by decide) (by decide),Zmf 3 (by decide) (by decide)⟩,Zmf 4 (by decide) (by decide)⟩
theorem tExE(w:World)(N:Nat→Prop)(vs:List Value)(hd:Zu N w l12E.ds vs) :
  Calls Tryz.prog 25 #[.agg vs.toArray] w fun e y=>e=.returned (.string ⟨#[49,32,45,32,40,50,32,45,32,51,41,32,42,32,52]⟩)∧Below w.heap.size w y:=by
 have h:=topExpr w vs hd.len (kEx l12E) (fun x hb=>pEx x N l12E l12_val vs (hd.below hb)) (by unfold Xf;decide +kernel) (by decide +kernel);rw[l12_text]at h;exact h
theorem whole12B{w:World}{g:Nat}{t:TypeId}{a0 a1 a2 a3 a4 a5 a6 a7 a8 a9 a10 a11:Value}(W:Zd w g t [a0,a1,a2,a3,a4,a5,a6,a7,a8,a9,a10,a11].toArray) :
  w.cell? ⟨g,0,none⟩=some a0∧w.cell? ⟨g,1,none⟩=some a1∧w.cell? ⟨g,2,none⟩=some a2∧w.cell? ⟨g,3,none⟩=some a3∧w.cell? ⟨g,4,none⟩=some a4∧w.cell? ⟨g,5,none⟩=some a5∧w.cell? ⟨g,6,none⟩=some a6∧w.cell? ⟨g,7,none⟩=some a7∧w.cell? ⟨g,8,none⟩=some a8∧w.cell? ⟨g,9,none⟩=some a9∧w.cell? ⟨g,10,none⟩=some a10∧w.cell? ⟨g,11,none⟩=some a11:=
 ⟨W.read 0,W.read 1,W.read 2,W.read 3,W.read 4,W.read 5,W.read 6,W.read 7,W.read 8,W.read 9,W.read 10,W.read 11⟩
theorem z_exB:(Tryz.prog.info? 51).map (fun i=>i.zero.map Value.cells)=some (some ([.int .i64 0,.int .i64 0,.int .i64 0,.int .i64 0,.int .i64 0,.int .i64 0,.slice none 0 0,.int .i64 0,.int .i64 0,.int .i64 0,.int .i64 0,.slice none 0 0]:List Value).toArray):=by kernel_rfl
theorem z_faB:(Tryz.prog.info? 29).map (fun i=>i.zero.map Value.cells)=some (some ([.int .i64 0,.int .i64 0,.int .i64 0]:List Value).toArray):=by kernel_rfl
theorem s_faB:(Tryz.prog.info? 29).map (·.size)=some 3:=by kernel_rfl
theorem Zkp(w:World):Calls Tryz.prog 11 #[] w fun e w'=>e=.returned (.bool true)∧Below w.heap.size w w':=by
 have hx:∀ x,Calls Tryz.prog 44 #[.string ⟨#[49,32,45,32,40,50,32,45,32,51,41,32,42,32,40,52,41]⟩] x (fun e w'=>∃ v0 v1 v2 v3 v4 v5 v6 v7 v8 v9 v10 v11:Value,e=.returned (.tuple #[.agg #[v0,v1,v2,v3,v4,v5,v6,v7,v8,v9,v10,v11],.agg #[.int .i64 0,.int .i64 0,.int .i64 0]]) ∧
   Hid (∀ v ∈ [v0,v1,v2,v3,v4,v5,v6,v7,v8,v9,v10,v11],v.oneCell'=true)∧Zu (fun k=>x.heap.size≤k) w' l12E.ds [v0,v1,v2,v3,v4,v5,v6,v7,v8,v9,v10,v11]∧Below x.heap.size x w'):=fun x=>by
  have h:=xExpr l12T x (by decide);rw[l12_is]at h;refine h.mono ?_;rintro e y ⟨vs,rfl,d,b⟩;obtain⟨v0,v1,v2,v3,v4,v5,v6,v7,v8,v9,v10,v11,rfl⟩:=Zcm vs d.len;exact⟨v0,v1,v2,v3,v4,v5,v6,v7,v8,v9,v10,v11,rfl,Hh d.one,d,b⟩
 have T:=Hh (Env.start w);go_enter Tryz.func11,Tryz.ntmps11;go_wp2_with(first
 |(go_at_call 44;refine(hx _).mono ?_;rintro e wn ⟨v0,v1,v2,v3,v4,v5,v6,v7,v8,v9,v10,v11,rfl,ho,d,bn⟩;have T:=Hh (T.out.tree bn d);clear bn d)
 |((with_reducible refine Ze 1 ?_);refine Zc T.out 51 ([.int .i64 0,.int .i64 0,.int .i64 0,.int .i64 0,.int .i64 0,.int .i64 0,.slice none 0 0,.int .i64 0,.int .i64 0,.int .i64 0,.int .i64 0,.slice none 0 0]) rfl rfl z_exB ?_;intro wn g1 tn;have T:=Hh tn;clear tn)
 |((with_reducible refine Ze 2 ?_);refine Zc T.out 29 ([.int .i64 0,.int .i64 0,.int .i64 0]) rfl rfl z_faB ?_;intro wn g2 tn;have T:=Hh tn;clear tn)
 |((with_reducible refine Zi 1 5 ?_);refine Za 51 _ _ 51 g1 _ ([v0,v1,v2,v3,v4,v5,v6,v7,v8,v9,v10,v11]) (T.out.get 0 rfl) rfl Ys ho.out rfl rfl rfl rfl rfl ?_;intro wn p;have T:=Hh (T.out.put 0 rfl p);clear p)
 |((with_reducible refine Zi 2 6 ?_);refine Za 29 _ _ 29 g2 _ ([.int .i64 0,.int .i64 0,.int .i64 0]) (T.out.get 1 rfl) rfl s_faB (by simp[Value.oneCell']) rfl rfl rfl rfl rfl ?_;intro wn p;have T:=Hh (T.out.put 1 rfl p);clear p;have c1_0:wn.cell? ⟨g2,0,none⟩=some (.int .i64 0):=(T.out.get 1 rfl).read 0;obtain⟨c0,c1,c2,c3,c4,c5,c6,c7,c8,c9,c10,c11⟩:=whole12B (T.out.get 0 rfl))
 |(go_at_call 25;refine(tExE _ _ _ (T.out.leaf 0 rfl)).mono ?_;rintro e wn ⟨rfl,bn⟩;have T:=Hh (T.out.call bn);clear bn))
 go_ret;exact⟨rfl,T.out.below⟩
open Go Go.RowKit
structure Ret2(w w':World)(g3 g4:Nat)(t3 t4:TypeId)(vs us:List Value):Prop where
 one:Zd w' g3 t3 vs.toArray
 two:Zd w' g4 t4 us.toArray
 keeps:Zx (fun k=>k=g3∨k=g4) w w'
theorem ret2{P:Program}{id:Nat}{Q:Exit→Act→World→Prop}{a:Act}{w:World}{o0 o1 o2 o3:Oper}(hm:P.follows .mixedOrders=true)
  (cs:Region.noSelect #[o0,o1,o2,o3]=true)(cf0:Region.free .any #[o0,o1,o2,o3] (Array.replicate 4 false) 0=true)(cr0:(Region.ready .any #[o0,o1,o2,o3] (Array.replicate 4 false)).contains 0=true)
  (cf1:Region.free .any #[o0,o1,o2,o3] ((Array.replicate 4 false).setIfInBounds 0 true) 1=true)(cr1:(Region.ready .any #[o0,o1,o2,o3] ((Array.replicate 4 false).setIfInBounds 0 true)).contains 1=true)
  (c2:Region.ready .any #[o0,o1,o2,o3] (((Array.replicate 4 false).setIfInBounds 0 true).setIfInBounds 1 true)=[2])
  (c3:Region.ready .any #[o0,o1,o2,o3] ((((Array.replicate 4 false).setIfInBounds 0 true).setIfInBounds 1 true).setIfInBounds 2 true)=[3])
  (c4:Region.ready .any #[o0,o1,o2,o3] (((((Array.replicate 4 false).setIfInBounds 0 true).setIfInBounds 1 true).setIfInBounds 2 true).setIfInBounds 3 true)=[])
  {T1 T2:TypeId}{x1 x2 y1 y2 z1 z2:Operand}(h0:o0.op=.load T1 x1)(h1:o1.op=.load T2 x2)(h2:o2.op=.store T1 y1 z1)(h3:o3.op=.store T2 y2 z2)
  (n0:o0.guard=none)(n1:o1.guard=none)(n2:o2.guard=none)(n3:o3.guard=none)(k2:o2.dst=none)(k3:o3.dst=none)
  (g1 g2 g3 g4:Nat){t1 t2 t3 t4:TypeId}(vs us old3 old4:List Value)(W1:Zd w g1 t1 vs.toArray)(W2:Zd w g2 t2 us.toArray)(W3:Zd w g3 t3 old3.toArray)(W4:Zd w g4 t4 old4.toArray)
  (hl3:vs.length=old3.length)(hl4:us.length=old4.length)(ho1:∀ v ∈ vs,v.oneCell'=true)(ho2:∀ v ∈ us,v.oneCell'=true)
  (d13:g1≠g3)(d14:g1≠g4)(d23:g2≠g3)(d24:g2≠g4)(d34:g3≠g4)
  (hu1:(P.underlying T1).map TypeDesc.isRow=some true)(hi1:(P.info? T1).map (·.size)=some vs.length)(hu2:(P.underlying T2).map TypeDesc.isRow=some true)(hi2:(P.info? T2).map (·.size)=some us.length)
  (e1:a.eval x1=.pointer (some ⟨g1,0,none⟩))(e2:(a.put o0.dst (.agg vs.toArray)).eval x2=.pointer (some ⟨g2,0,none⟩))
  (e3:((a.put o0.dst (.agg vs.toArray)).put o1.dst (.agg us.toArray)).eval y1=.pointer (some ⟨g3,0,none⟩))(e4:((a.put o0.dst (.agg vs.toArray)).put o1.dst (.agg us.toArray)).eval z1=.agg vs.toArray)
  (e5:((a.put o0.dst (.agg vs.toArray)).put o1.dst (.agg us.toArray)).eval y2=.pointer (some ⟨g4,0,none⟩))(e6:((a.put o0.dst (.agg vs.toArray)).put o1.dst (.agg us.toArray)).eval z2=.agg us.toArray)
  (h:∀ w',Ret2 w w' g3 g4 t3 t4 vs us→Q .normal ((a.put o0.dst (.agg vs.toArray)).put o1.dst (.agg us.toArray)) w'):(Code.region id #[o0,o1,o2,o3] true).wp P Q a w:=by
 obtain⟨d1,hu1,hr1⟩:=Option.map_eq_some_iff.1 hu1;obtain⟨d2,hu2,hr2⟩:=Option.map_eq_some_iff.1 hu2;refine wp_region_noPanic (wp_region_held_drew (S:=fun x=>Zd x g1 t1 vs.toArray∧Zd x g2 t2 us.toArray) hm ⟨W1.drew,W2.drew⟩ fun hS=>?_);have rg:∀{x:World}{g:Nat}{t:TypeId}{l:List Value},Zd x g t l.toArray→x.rangeAt g 0 l:=fun{x g t l} hx=>Zd.range (a:=[]) (b:=l) (c:=[]) (by simpa using hx)
 refine wpAnyH_take (i:=0) (oi:=o0) (v:=.agg vs.toArray) rfl cs cf0 cr0 (fun _ _ _ h=>h) (yieldsIf_load_mid (Ur n0) T1 x1 h0 g1 0 e1 vs d1 (fun x hx=>rg hx.1) hu1 hr1 hi1) hS ?_;refine wpAnyH_take (i:=1) (oi:=o1) (v:=.agg us.toArray) rfl cs cf1 cr1 (fun _ _ _ h=>h) (yieldsIf_load_mid (Ur n1) T2 x2 h1 g2 0 e2 us d2 (fun x hx=>rg hx.2) hu2 hr2 hi2) hS ?_;have th:∀{x:World}{g:Nat}{t:TypeId}{l:List Value},Zd x g t l.toArray→x.there g 0 l.length:=fun{x g t l} hx=>Zd.there (a:=[]) (b:=l) (c:=[]) (by simpa using hx)
 have p3:Zd (w.drew.setCells g3 0 vs) g3 t3 vs.toArray:=by
  have e:=Zd.setCells (g:=g3) (t:=t3) [] vs old3 [] w.drew hl3 (by simpa using W3.drew);simpa using e
 have k3':=Zx.setCells (S:=fun k=>k=g3) (g:=g3) rfl vs 0 (Zx.refl _ w.drew);have q4:Zd (w.drew.setCells g3 0 vs) g4 t4 old4.toArray:=k3'.whole W4.drew (Ne.symm d34)
 have p4:Zd ((w.drew.setCells g3 0 vs).setCells g4 0 us) g4 t4 us.toArray:=by
  have e:=Zd.setCells (g:=g4) (t:=t4) [] us old4 [] (w.drew.setCells g3 0 vs) hl4 (by simpa using q4);simpa using e
 have k4':=Zx.setCells (S:=fun k=>k=g4) (g:=g4) rfl us 0 (Zx.refl _ (w.drew.setCells g3 0 vs));refine wpAnyH_ready (rs:=[2]) c2 (by simp) (AllReadyH.cons (o:=o2) rfl (fun K hK=>?_) AllReadyH.nil);rw[if_pos (Ur n2)];refine wp_store_mid T1 y1 z1 h2 g3 0 vs.toArray e3 e4 (by rw[List.size_toArray,hl3];exact th W3.drew) (by simpa using hi1) (all_oneCell_toArray ho1) ?_;rw[k2];refine hK.out _ _ ⟨k3'.whole W1.drew d13,k3'.whole W2.drew d23⟩ fun hS3=>?_
 refine wpAnyH_ready (rs:=[3]) c3 (by simp) (AllReadyH.cons (o:=o3) rfl (fun K hK=>?_) AllReadyH.nil);rw[if_pos (Ur n3)];refine wp_store_mid T2 y2 z2 h3 g4 0 us.toArray e5 e6 (by rw[List.size_toArray,hl4];exact th q4) (by simpa using hi2) (all_oneCell_toArray ho2) ?_;rw[k3];refine hK.out _ _ ⟨k4'.whole (k3'.whole W1.drew d13) d14,k4'.whole (k3'.whole W2.drew d23) d24⟩ fun hS4=>?_
 refine wpAnyH_done c4 ?_ _;refine h _ ⟨k4'.whole p3 d34,p4,?_⟩;exact(Zx.drew (Zx.refl _ w)).trans ((k3'.mono fun k e=>.inl e).trans (k4'.mono fun k e=>.inr e))
def Ya(w:World)(r K:Nat)(L:List TokV):Prop:=0<L.length→Zai w r K L
theorem Ya.below{w w':World}{r K:Nat}{L:List TokV}(h:Ya w r K L)(hb:Below w.heap.size w w'):Ya w' r K L:=fun hl=>(h hl).below hb
theorem Ya.put{x y:World}{r K:Nat}{L:List TokV}(h:Ya x r K L){g B:Nat}{t:TypeId}{vs:List Value}(p:Put x y g t vs)(hr:0<L.length→r<B)(hg:B≤g):Ya y r K L:=fun hl=>(h hl).keeps p.keeps (by have:=hr hl;omega)
theorem Ya.rin{w:World}{r K:Nat}{L:List TokV}(h:Ya w r K L):0<L.length→r<w.heap.size:=fun hl=>(h hl).rin
structure RPv(r K:Nat)(L:List TokV)(st:St)(vs:List Value):Prop where
 form:∃ A n k a d,vs=[.slice A n k,.int .i64 (a:Nat),.int .i64 (d:Nat),.int .i64 (Xb st).1,.int .i64 ((Xb st).2.1:Int),.int .i64 ((Xb st).2.2:Int)]∧d≤8 ∧
  ∀ a' d',st=.ok a' d'→A=some ⟨r,0,none⟩∧n=L.length∧k=K∧a=a'∧d=d'∧a'<L.length
 flt:∀ F,st=.bad F→F.1≠0
theorem RPv.ok{r K:Nat}{L:List TokV}{a d:Nat}{vs:List Value}(h:RPv r K L (.ok a d) vs):∃ n,n=L.length∧vs=[.slice (some ⟨r,0,none⟩) n K,.int .i64 (a:Int),.int .i64 (d:Int),.int .i64 0,.int .i64 0,.int .i64 0]∧a<L.length∧d≤8:=by
 obtain⟨A,n,k,a',d',e,hd,hk⟩:=h.form;obtain⟨h1,h2,h3,h4,h5,h6⟩:=hk a d rfl;subst h1 h3 h4 h5;exact⟨n,h2,e,h6,hd⟩
theorem RPv.bad{r K:Nat}{L:List TokV}{F:Int×Nat×Nat}{vs:List Value}(h:RPv r K L (.bad F) vs):∃ A n k a d,vs=[.slice A n k,.int .i64 (a:Nat),.int .i64 (d:Nat),.int .i64 F.1,.int .i64 (F.2.1:Int),.int .i64 (F.2.2:Int)]∧d≤8∧F.1≠0:=by
 obtain⟨A,n,k,a',d',e,hd,_⟩:=h.form;exact⟨A,n,k,a',d',e,hd,h.flt F rfl⟩
theorem RPv.mkOk{r K:Nat}{L:List TokV}{a d n:Nat}(hn:n=L.length)(ha:a<L.length)(hd:d≤8):RPv r K L (.ok a d) [.slice (some ⟨r,0,none⟩) n K,.int .i64 (a:Int),.int .i64 (d:Int),.int .i64 0,.int .i64 0,.int .i64 0]:=
 ⟨⟨_,_,_,_,_,rfl,hd,fun a' d' e=>by cases e;exact⟨rfl,hn,rfl,rfl,rfl,ha⟩⟩,fun F e=>by cases e⟩
theorem RPv.mkBad{r K:Nat}{L:List TokV}{F:Int×Nat×Nat}(A:Option Addr)(n k a d:Nat)(hd:d≤8)(hF:F.1≠0):RPv r K L (.bad F) [.slice A n k,.int .i64 (a:Int),.int .i64 (d:Int),.int .i64 F.1,.int .i64 (F.2.1:Int),.int .i64 (F.2.2:Int)]:=
 ⟨⟨_,_,_,_,_,rfl,hd,fun a' d' e=>by cases e⟩,fun F e=>by cases e;exact hF⟩
theorem RPv.len{r K:Nat}{L:List TokV}{st:St}{vs:List Value}(h:RPv r K L st vs):vs.length=6:=by
 obtain⟨A,n,k,a,d,e,_⟩:=h.form;rw[e];rfl
theorem RPv.one{r K:Nat}{L:List TokV}{st:St}{vs:List Value}(h:RPv r K L st vs):∀ v ∈ vs,v.oneCell'=true:=by
 obtain⟨A,n,k,a,d,e,_⟩:=h.form;rw[e];simp[Value.oneCell']
theorem RPv.six{r K:Nat}{L:List TokV}{st:St}{vs:List Value}(h:RPv r K L st vs):∃ c0 c1 c2,vs=[c0,c1,c2,.int .i64 (Xb st).1,.int .i64 ((Xb st).2.1:Int),.int .i64 ((Xb st).2.2:Int)]:=by
 obtain⟨A,n,k,a,d,e,_⟩:=h.form;exact⟨_,_,_,e⟩
theorem Zn:(Tryz.prog.underlying 82).map TypeDesc.isRow=some true:=by kernel_rfl
theorem Yg:(Tryz.prog.info? 82).map (·.size)=some 6:=by kernel_rfl
theorem Zf{vs:List Value}(h:vs.length=6):(Tryz.prog.info? 82).map (·.size)=some vs.length:=by rw[h];exact Yg
theorem Zfs:(Tryz.prog.underlying 80).map TypeDesc.isRow=some true:=by kernel_rfl
theorem Vz:(Tryz.prog.info? 80).map (·.size)=some 3:=by kernel_rfl
def PPo(w:World)(r K:Nat)(L:List TokV)(st:St)(e:Ending)(w':World):Prop:=∃ vs:List Value,e=.returned (.agg vs.toArray)∧RPv r K L st vs∧Below w.heap.size w w'
def PVo(w:World)(r K:Nat)(L:List TokV)(st:St)(v:Value)(e:Ending)(w':World):Prop:=∃ vs:List Value,e=.returned (.tuple #[.agg vs.toArray,v])∧RPv r K L st vs∧Below w.heap.size w w'
theorem Xm{P:Program}{fn:Func}{R:Ending→World→Prop}{a:Act}{w:World}(s1 T1 s2:Nat)(t1:TypeId)(g1:Nat)(vs:List Value)(v:Value)(hres:fn.results=#[.cell s1 T1,.tmp s2])(h1:Zd w g1 t1 vs.toArray)
  (hu1:(P.underlying T1).map TypeDesc.isRow=some true)(hi1:(P.info? T1).map (·.size)=some vs.length)
  (hp1:a.tmps.getD s1 undef=.pointer (some ⟨g1,0,none⟩))(hp2:a.tmps.getD s2 undef=v)(hd:a.defers=[])(hR:R (.returned (.tuple #[.agg vs.toArray,v])) w):bodyPost P fn R .ret a w:=by
 obtain⟨d1,hu1,hr1⟩:=Option.map_eq_some_iff.1 hu1;refine bodyPost_ret (v:=.tuple #[.agg vs.toArray,v]) ?_ hd hR;have hl1:=run_loadVar_mid (P:=P) w g1 0 T1 vs d1 (by have:=Zd.range (a:=[]) (b:=vs) (c:=[]) (by simpa using h1);exact this) hu1 hr1 hi1;have hp1':a.tmps[s1]?.getD undef=.pointer (some ⟨g1,0,none⟩):=by simpa using hp1
 have hp2':a.tmps[s2]?.getD undef=v:=by simpa using hp2
 simp[results,hres,hp1',hp2',hl1,asAddr,Sem.run_bind,Sem.run_pure]
theorem qbad(w:World)(r K:Nat)(L:List TokV)(st:St)(vs:List Value)(ho:Ya w r K L)(hp:RPv r K L st vs) :
  Calls Tryz.prog 105 #[.agg vs.toArray] w (PPo w r K L (Zhi L st)):=by
 cases st with
 |ok a d=>
  obtain⟨n,hn,rfl,ha,hd⟩:=hp.ok;have hrow:=ho (by omega);have hrin:=ho.rin;have n1:=Zh w (.cells [.slice (some ⟨r,0,none⟩) n K,.int .i64 (a:Int),.int .i64 (d:Int),.int .i64 0,.int .i64 0,.int .i64 0].toArray 82);have n2:=Zh (w.alloc (.cells [.slice (some ⟨r,0,none⟩) n K,.int .i64 (a:Int),.int .i64 (d:Int),.int .i64 0,.int .i64 0,.int .i64 0].toArray 82)) (.cells #[.slice none 0 0,.int .i64 0,.int .i64 0,.int .i64 0,.int .i64 0,.int .i64 0] 82);have X0:=Hh ((Zd.made w 82 [.slice (some ⟨r,0,none⟩) n K,.int .i64 (a:Int),.int .i64 (d:Int),.int .i64 0,.int .i64 0,.int .i64 0].toArray).alloc (.cells #[.slice none 0 0,.int .i64 0,.int .i64 0,.int .i64 0,.int .i64 0,.int .i64 0] 82));have R0:=Hh (show Zd ((w.alloc (.cells [.slice (some ⟨r,0,none⟩) n K,.int .i64 (a:Int),.int .i64 (d:Int),.int .i64 0,.int .i64 0,.int .i64 0].toArray 82)).alloc (.cells #[.slice none 0 0,.int .i64 0,.int .i64 0,.int .i64 0,.int .i64 0,.int .i64 0] 82)) (w.heap.size+1) 82 ([.slice none 0 0,.int .i64 0,.int .i64 0,.int .i64 0,.int .i64 0,.int .i64 0]:List Value).toArray from by have e:=Zd.made (w.alloc (.cells [.slice (some ⟨r,0,none⟩) n K,.int .i64 (a:Int),.int .i64 (d:Int),.int .i64 0,.int .i64 0,.int .i64 0].toArray 82)) 82 #[.slice none 0 0,.int .i64 0,.int .i64 0,.int .i64 0,.int .i64 0,.int .i64 0];rw[World.size_alloc]at e;exact e);have B0:=Hh (Ul n1 n2);have O0:=Hh ((ho.below n1).below n2);have hz0:w.heap.size+2≤((w.alloc (.cells [.slice (some ⟨r,0,none⟩) n K,.int .i64 (a:Int),.int .i64 (d:Int),.int .i64 0,.int .i64 0,.int .i64 0].toArray 82)).alloc (.cells #[.slice none 0 0,.int .i64 0,.int .i64 0,.int .i64 0,.int .i64 0,.int .i64 0] 82)).heap.size:=by simp
  clear n1 n2;have hw:=Zfm (Zv L a);have HW:=Hh hw;have HN:=Hh hn;clear hw ho hp hrow hn;go_enter Tryz.func105,Tryz.ntmps105;go_wp2_with(first
 |(go_at_call 150;refine(qWrong _ r K L n a d HN.out (O0.out (by omega)) ha).mono ?_;rintro e w1 ⟨rfl,b1⟩
   have X1:=Hh (X0.out.below b1 X0.out.inside);have R1:=Hh (R0.out.below b1 R0.out.inside);have B1:=Hh (bthen2 B0.out b1 (by first | omega | (simp;done) | (simp;omega)));have O1:=Hh (O0.out.below b1);have hz1:w.heap.size+2≤w1.heap.size:=by have:=b1.size;(try simp at this);omega
   simp only[Zq];clear b1 )
 |((with_reducible refine Zi 10 9 ?_);refine Xn 29 _ _ 82 (w.heap.size) 3 ([.slice (some ⟨r,0,none⟩) n K,.int .i64 (a:Int),.int .i64 (d:Int)]) ([.int .i64 0,.int .i64 0,.int .i64 0]) ([]) ([.int .i64 (wrF (Zv L a)).1,.int .i64 ((wrF (Zv L a)).2.1:Int),.int .i64 ((wrF (Zv L a)).2.2:Int)]) (by first | exact X1.out | simpa using X1.out) rfl rfl Wt (by simp[Value.oneCell']) rfl rfl rfl rfl rfl ?_
   intro w2 p2;have X2:=Hh (show Zd w2 (w.heap.size) 82 (([.slice (some ⟨r,0,none⟩) n K,.int .i64 (a:Int),.int .i64 (d:Int)]:List Value)++([.int .i64 (wrF (Zv L a)).1,.int .i64 ((wrF (Zv L a)).2.1:Int),.int .i64 ((wrF (Zv L a)).2.2:Int)]:List Value)++([]:List Value)).toArray from by first | exact p2.whole | simpa using p2.whole);have R2:=Hh (p2.keeps.whole R1.out (by omega));have B2:=Hh (Zcg B1.out p2 (by omega) (by omega));have O2:=Hh (O1.out.put p2 hrin (by omega));have hz2:=Nat.le_trans hz1 p2.keeps.size;clear p2)
 |((with_reducible refine Ze 11 ?_);refine Zb 82 _ 82 (w.heap.size) _ X2.out Zn Yg rfl rfl rfl ?_)
 |((with_reducible refine Zi 2 11 ?_);refine Za 82 _ _ 82 (w.heap.size+1) _ ([.slice (some ⟨r,0,none⟩) n K,.int .i64 (a:Int),.int .i64 (d:Int),.int .i64 (wrF (Zv L a)).1,.int .i64 ((wrF (Zv L a)).2.1:Int),.int .i64 ((wrF (Zv L a)).2.2:Int)]) R2.out rfl Yg (by simp[Value.oneCell']) rfl rfl rfl rfl rfl ?_
   intro w3 p3;have R3:=Hh p3.whole;have X3:=Hh (p3.keeps.whole X2.out (by omega));have B3:=Hh (Zcg B2.out p3 (by omega) (by omega));have O3:=Hh (O2.out.put p3 hrin (by omega));have hz3:=Nat.le_trans hz2 p3.keeps.size;clear p3))
  exact Wp 2 82 82 _ _ rfl R3.out Zn Yg rfl rfl ⟨_,rfl,RPv.mkBad _ _ _ _ _ hd HW.out,B3.out⟩
 |bad F=>
  obtain⟨A,n,k,a,d,rfl,hd,hF⟩:=hp.bad;obtain⟨f0,f1,f2⟩:=F;have z0:(f0 == 0)=false:=by rw[beq_eq_false_iff_ne];exact hF
  have hrin:=ho.rin;have n1:=Zh w (.cells [.slice A n k,.int .i64 (a:Int),.int .i64 (d:Int),.int .i64 f0,.int .i64 (f1:Int),.int .i64 (f2:Int)].toArray 82);have n2:=Zh (w.alloc (.cells [.slice A n k,.int .i64 (a:Int),.int .i64 (d:Int),.int .i64 f0,.int .i64 (f1:Int),.int .i64 (f2:Int)].toArray 82)) (.cells #[.slice none 0 0,.int .i64 0,.int .i64 0,.int .i64 0,.int .i64 0,.int .i64 0] 82);have X0:=Hh ((Zd.made w 82 [.slice A n k,.int .i64 (a:Int),.int .i64 (d:Int),.int .i64 f0,.int .i64 (f1:Int),.int .i64 (f2:Int)].toArray).alloc (.cells #[.slice none 0 0,.int .i64 0,.int .i64 0,.int .i64 0,.int .i64 0,.int .i64 0] 82));have R0:=Hh (show Zd ((w.alloc (.cells [.slice A n k,.int .i64 (a:Int),.int .i64 (d:Int),.int .i64 f0,.int .i64 (f1:Int),.int .i64 (f2:Int)].toArray 82)).alloc (.cells #[.slice none 0 0,.int .i64 0,.int .i64 0,.int .i64 0,.int .i64 0,.int .i64 0] 82)) (w.heap.size+1) 82 ([.slice none 0 0,.int .i64 0,.int .i64 0,.int .i64 0,.int .i64 0,.int .i64 0]:List Value).toArray from by have e:=Zd.made (w.alloc (.cells [.slice A n k,.int .i64 (a:Int),.int .i64 (d:Int),.int .i64 f0,.int .i64 (f1:Int),.int .i64 (f2:Int)].toArray 82)) 82 #[.slice none 0 0,.int .i64 0,.int .i64 0,.int .i64 0,.int .i64 0,.int .i64 0];rw[World.size_alloc]at e;exact e);have B0:=Hh (Ul n1 n2);have O0:=Hh ((ho.below n1).below n2);have hz0:w.heap.size+2≤((w.alloc (.cells [.slice A n k,.int .i64 (a:Int),.int .i64 (d:Int),.int .i64 f0,.int .i64 (f1:Int),.int .i64 (f2:Int)].toArray 82)).alloc (.cells #[.slice none 0 0,.int .i64 0,.int .i64 0,.int .i64 0,.int .i64 0,.int .i64 0] 82)).heap.size:=by simp
  clear n1 n2;have HF:=Hh hF;clear ho hp hF;go_enter Tryz.func105,Tryz.ntmps105;go_wp2_with(first
 |((with_reducible refine Ze 11 ?_);refine Zb 82 _ 82 (w.heap.size) _ X0.out Zn Yg rfl rfl rfl ?_)
 |((with_reducible refine Zi 2 11 ?_);refine Za 82 _ _ 82 (w.heap.size+1) _ ([.slice A n k,.int .i64 (a:Int),.int .i64 (d:Int),.int .i64 f0,.int .i64 (f1:Int),.int .i64 (f2:Int)]) R0.out rfl Yg (by simp[Value.oneCell']) rfl rfl rfl rfl rfl ?_
   intro w1 p1;have R1:=Hh p1.whole;have X1:=Hh (p1.keeps.whole X0.out (by omega));have B1:=Hh (Zcg B0.out p1 (by omega) (by omega));have O1:=Hh (O0.out.put p1 hrin (by omega));have hz1:w.heap.size+2≤w1.heap.size:=by have:=p1.keeps.size;(try simp at this);omega
   clear p1))
  exact Wp 2 82 82 _ _ rfl R1.out Zn Yg rfl rfl ⟨_,rfl,RPv.mkBad (F:=(f0,f1,f2)) _ _ _ _ _ hd HF.out,B1.out⟩
end Go.Proofs.YtljdgdphldckhaaGreat
