/-
  No conditions but those that each theorem names.
-/
import Derived.Lib.Builder
import Derived.Lib.UnsafeStr
import Derived.Lib.Hide
import Derived.IntWalk
import Derived.Deep.RegionWith
import Derived.Great.Ranges
import Derived.Great.Walk
import Derived.Deep.DeepCutAuto
import Derived.Deep.RegionHeld3
import Derived.StillTailTactics
import Derived.Test.YtdngkgickbaboaaGreatQS16
set_option maxRecDepth 20000
set_option maxHeartbeats 12800000
namespace Go.Proofs.YtdngkgickbaboaaGreat
open Go.ChangeShapes Go.WideShapes Go.ChangeAt Go.RowKit
set_option linter.unusedVariables false
set_option linter.unusedSimpArgs false
def fileO(nk:Int)(s:ByteArray):Fi×St:=Ve nk (Wk s) (Zbj s) (Up s)
def Zjm(nk:Int)(s:ByteArray):Fi×(Int×Nat×Nat):=(if(Xh (Wk s) (fileO nk s).2).good=true then(fileO nk s).1 else⟨[],[]⟩,Yx (Xh (Wk s) (fileO nk s).2))
def exprO(nk:Int)(s:ByteArray):Ex×St:=Yd nk (Wk s) (Zbj s) (Up s)
def exprP(nk:Int)(s:ByteArray):Ex×(Int×Nat×Nat):=(if(Xh (Wk s) (exprO nk s).2).good=true then(exprO nk s).1 else zEx,Yx (Xh (Wk s) (exprO nk s).2))
theorem Zjx(s:ByteArray):Zu (Wk s) (Up s)≤(Wk s).length:=by
 unfold Up;split
 ·exact Nat.sub_le _ _
 ·exact Nat.zero_le _
theorem text_len(s:ByteArray)(h:s.size≤65536):(Wk s).length≤65537:=by
 unfold Wk;rcases Zje s h with⟨E,l,c,hv,_⟩ | ⟨L,hv,_,hl⟩
 ·rw[hv];exact Nat.zero_le _
 ·rw[hv];show L.length≤65537;omega
def Znk(w:World)(ds:Ds)(F:Int×Nat×Nat)(e:Ending)(w':World):Prop:=
 ∃ vs:List Value,e=.returned (.tuple #[.agg vs.toArray,Zr F])∧Zn (fun k=>w.heap.size≤k) w' ds vs∧Below w.heap.size w w'
theorem Zgw{B:Nat}{w x y:World}{q c r K:Nat}{L:List TokV}{st:St}(h:Below B w x)(m:Xx x y q c r K L st)(hq:B≤q)(hc:B≤c)(hx:B≤x.heap.size):Below B w y:=
 h.trans (m.keeps.below hx fun k hk=>by omega)
theorem Zbh{B:Nat}{w x y:World}{g:Nat}{t:TypeId}{vs:List Value}(h:Below B w x)(p:Put x y g t vs)(hg:B≤g)(hx:B≤x.heap.size):Below B w y:=
 h.trans (p.keeps.below hx fun k hk=>by omega)
theorem bthen2{B:Nat}{w x y:World}(h:Below B w x)(k:Below x.heap.size x y)(hB:B≤x.heap.size):Below B w y:=h.trans (k.mono hB)
theorem xExpr(s:ByteArray)(w:World)(hs:s.size≤65536):Calls Tryz.prog 16 #[.string s] w (Znk w (exprP 5 s).1.ds (exprP 5 s).2):=by
 have hr:=Zjx s;have hl:=text_len s hs;have hbe:∀ w,Calls Tryz.prog 41 #[.string s] w (Zma w s):=fun w=>xbegin s w hs
 have hsub:∀ w q c r K,PAt w q c r K (Wk s) (Up s)→Calls Tryz.prog 43 #[.pointer (some ⟨q,0,none⟩)] w (Ut w q c r K (Wk s) (exprO 5 s).2 (exprO 5 s).1.ds):=fun w q c r K h=>by
  have hN:Zbj s=8*(Wk s).length+20:=rfl;exact xexprs w q c r K _ _ (Zbj s) h (by omega) (by omega)
 unfold Zma at hbe;unfold exprP;generalize exprO 5 s=o at *;generalize Wk s=L at *;generalize Up s=st at *;clear hr hl hs;have n1:=Zi w (.cells #[.int .i64 0,.int .i64 0,.int .i64 0,.int .i64 0,.int .i64 0,.int .i64 0,.slice none 0 0,.int .i64 0,.int .i64 0,.int .i64 0,.int .i64 0,.slice none 0 0] 54);have n2:=Zi (w.alloc (.cells #[.int .i64 0,.int .i64 0,.int .i64 0,.int .i64 0,.int .i64 0,.int .i64 0,.slice none 0 0,.int .i64 0,.int .i64 0,.int .i64 0,.int .i64 0,.slice none 0 0] 54)) (.cells #[.int .i64 0,.int .i64 0,.int .i64 0] 29);have R0:=Hh ((show Zf _ w.heap.size 54 ([.int .i64 0,.int .i64 0,.int .i64 0,.int .i64 0,.int .i64 0,.int .i64 0,.slice none 0 0,.int .i64 0,.int .i64 0,.int .i64 0,.int .i64 0,.slice none 0 0]).toArray from Zf.made w 54 #[.int .i64 0,.int .i64 0,.int .i64 0,.int .i64 0,.int .i64 0,.int .i64 0,.slice none 0 0,.int .i64 0,.int .i64 0,.int .i64 0,.int .i64 0,.slice none 0 0]).alloc (.cells #[.int .i64 0,.int .i64 0,.int .i64 0] 29));have F0:=Hh (show Zf ((w.alloc (.cells #[.int .i64 0,.int .i64 0,.int .i64 0,.int .i64 0,.int .i64 0,.int .i64 0,.slice none 0 0,.int .i64 0,.int .i64 0,.int .i64 0,.int .i64 0,.slice none 0 0] 54)).alloc (.cells #[.int .i64 0,.int .i64 0,.int .i64 0] 29)) (w.heap.size+1) 29 ([.int .i64 0,.int .i64 0,.int .i64 0]:List Value).toArray from by have e:=Zf.made (w.alloc (.cells #[.int .i64 0,.int .i64 0,.int .i64 0,.int .i64 0,.int .i64 0,.int .i64 0,.slice none 0 0,.int .i64 0,.int .i64 0,.int .i64 0,.int .i64 0,.slice none 0 0] 54)) 29 #[.int .i64 0,.int .i64 0,.int .i64 0];rw[World.size_alloc]at e;exact e);have B0:=Hh (Ue n1 n2);have hz0:((w.alloc (.cells #[.int .i64 0,.int .i64 0,.int .i64 0,.int .i64 0,.int .i64 0,.int .i64 0,.slice none 0 0,.int .i64 0,.int .i64 0,.int .i64 0,.int .i64 0,.slice none 0 0] 54)).alloc (.cells #[.int .i64 0,.int .i64 0,.int .i64 0] 29)).heap.size=w.heap.size+2:=by simp
 cases hg:(Xh L o.2).good
 ·rw[if_neg (by decide)]
  go_enter Tryz.func16,Tryz.ntmps16;go_wp2_with(first
 |(go_at_call 41;refine(hbe _).mono ?_;rintro e w1 ⟨q,c,r,K,rfl,hp,hq,hc,b1⟩
   rw[hz0]at hq hc;have hz1:w.heap.size+2≤w1.heap.size:=by have:=b1.size;rw[hz0]at this;exact this
   have R1:=Hh (R0.out.below b1 R0.out.inside);have F1:=Hh (F0.out.below b1 F0.out.inside);have B1:=Hh (bthen2 B0.out b1 (by rw[hz0];omega));have hq2:=hp.whole.inside;have hc2:=hp.cin;have P1:=Hh hp;clear hp b1)
 |(go_at_call 43;refine(hsub _ q c r K P1.out).mono ?_;rintro e w2 ⟨vs,rfl,d2,m2⟩
   obtain⟨a0,a1,a2,a3,a4,a5,a6,a7,a8,a9,a10,a11,rfl⟩:=Zad vs d2.len12;have R2:=Hh (m2.keeps.whole R1.out (by omega));have F2:=Hh (m2.keeps.whole F1.out (by omega));have B2:=Hh (Zgw B1.out m2 (by omega) (by omega) (by omega));have P2:=Hh m2.at_;have hz2:w1.heap.size≤w2.heap.size:=m2.keeps.size;have D2:=Hh d2;clear m2 d2)
 |(go_at_call 42;refine(xfinE _ q c r K L o.2 a0 a1 a2 a3 a4 a5 a6 a7 a8 a9 a10 a11 D2.out.one P2.out).mono ?_;rintro e w3 ⟨e3,m3⟩
   rw[hg]at e3;rw[if_neg (by decide)]at e3;obtain rfl:=e3;have R3:=Hh (m3.keeps.whole R2.out (by omega));have F3:=Hh (m3.keeps.whole F2.out (by omega));have B3:=Hh (Zgw B2.out m3 (by omega) (by omega) (by omega));have hz3:w2.heap.size≤w3.heap.size:=m3.keeps.size;have D3:=Hh (D2.out.move m3 hq2 hc2);simp only[Zr];clear m3)
 |((with_reducible refine Zg 2 11 ?_);refine Za 54 _ _ 54 w.heap.size _ [.int .i64 0,.int .i64 0,.int .i64 0,.int .i64 0,.int .i64 0,.int .i64 0,.slice none 0 0,.int .i64 0,.int .i64 0,.int .i64 0,.int .i64 0,.slice none 0 0] R3.out rfl Yg (by simp[Value.oneCell']) rfl rfl rfl rfl rfl ?_
   intro w4 p4;have R4:=Hh p4.whole;have F4:=Hh (p4.keeps.whole F3.out (by omega));have B4:=Hh (Zbh B3.out p4 (Nat.le_refl _) (by omega));have D4:=Hh (D3.out.put p4 (by omega));have hz4:w3.heap.size≤w4.heap.size:=p4.keeps.size;clear p4)
 |((with_reducible refine Zg 3 12 ?_);refine Za 29 _ _ 29 (w.heap.size+1) _ [.int .i64 (Yx (Xh L o.2)).1,.int .i64 ((Yx (Xh L o.2)).2.1:Int),.int .i64 ((Yx (Xh L o.2)).2.2:Int)] F4.out rfl Wr (by simp[Value.oneCell']) rfl rfl rfl rfl rfl ?_
   intro w5 p5;have F5:=Hh p5.whole;have R5:=Hh (p5.keeps.whole R4.out (by omega));have B5:=Hh (Zbh B4.out p5 (by omega) (by omega));have D5:=Hh (D4.out.put p5 (by omega));clear p5))
  exact Yo 2 54 3 29 54 29 _ _ _ _ rfl R5.out F5.out Yr Yg Zbn Wr rfl rfl rfl ⟨_,rfl,(zEx_deep _ _),B5.out⟩
 ·rw[if_pos rfl]
  go_enter Tryz.func16,Tryz.ntmps16;go_wp2_with(first
 |(go_at_call 41;refine(hbe _).mono ?_;rintro e w1 ⟨q,c,r,K,rfl,hp,hq,hc,b1⟩
   rw[hz0]at hq hc;have hz1:w.heap.size+2≤w1.heap.size:=by have:=b1.size;rw[hz0]at this;exact this
   have R1:=Hh (R0.out.below b1 R0.out.inside);have F1:=Hh (F0.out.below b1 F0.out.inside);have B1:=Hh (bthen2 B0.out b1 (by rw[hz0];omega));have hq2:=hp.whole.inside;have hc2:=hp.cin;have P1:=Hh hp;clear hp b1)
 |(go_at_call 43;refine(hsub _ q c r K P1.out).mono ?_;rintro e w2 ⟨vs,rfl,d2,m2⟩
   obtain⟨a0,a1,a2,a3,a4,a5,a6,a7,a8,a9,a10,a11,rfl⟩:=Zad vs d2.len12;have R2:=Hh (m2.keeps.whole R1.out (by omega));have F2:=Hh (m2.keeps.whole F1.out (by omega));have B2:=Hh (Zgw B1.out m2 (by omega) (by omega) (by omega));have P2:=Hh m2.at_;have hz2:w1.heap.size≤w2.heap.size:=m2.keeps.size;have D2:=Hh d2;clear m2 d2)
 |(go_at_call 42;refine(xfinE _ q c r K L o.2 a0 a1 a2 a3 a4 a5 a6 a7 a8 a9 a10 a11 D2.out.one P2.out).mono ?_;rintro e w3 ⟨e3,m3⟩
   rw[hg]at e3;rw[if_pos rfl]at e3;obtain rfl:=e3;have R3:=Hh (m3.keeps.whole R2.out (by omega));have F3:=Hh (m3.keeps.whole F2.out (by omega));have B3:=Hh (Zgw B2.out m3 (by omega) (by omega) (by omega));have hz3:w2.heap.size≤w3.heap.size:=m3.keeps.size;have D3:=Hh (D2.out.move m3 hq2 hc2);simp only[Zr];clear m3)
 |((with_reducible refine Zg 2 11 ?_);refine Za 54 _ _ 54 w.heap.size _ [a0,a1,a2,a3,a4,a5,a6,a7,a8,a9,a10,a11] R3.out rfl Yg D2.out.one rfl rfl rfl rfl rfl ?_
   intro w4 p4;have R4:=Hh p4.whole;have F4:=Hh (p4.keeps.whole F3.out (by omega));have B4:=Hh (Zbh B3.out p4 (Nat.le_refl _) (by omega));have D4:=Hh (D3.out.put p4 (by omega));have hz4:w3.heap.size≤w4.heap.size:=p4.keeps.size;clear p4)
 |((with_reducible refine Zg 3 12 ?_);refine Za 29 _ _ 29 (w.heap.size+1) _ [.int .i64 (Yx (Xh L o.2)).1,.int .i64 ((Yx (Xh L o.2)).2.1:Int),.int .i64 ((Yx (Xh L o.2)).2.2:Int)] F4.out rfl Wr (by simp[Value.oneCell']) rfl rfl rfl rfl rfl ?_
   intro w5 p5;have F5:=Hh p5.whole;have R5:=Hh (p5.keeps.whole R4.out (by omega));have B5:=Hh (Zbh B4.out p5 (by omega) (by omega));have D5:=Hh (D4.out.put p5 (by omega));clear p5))
  exact Yo 2 54 3 29 54 29 _ _ _ _ rfl R5.out F5.out Yr Yg Zbn Wr rfl rfl rfl ⟨_,rfl,(D5.out.lower (by omega)),B5.out⟩
open Go
theorem good_row{v:TokV}(h:GoodT v):(v.k=2→0≤v.n∧v.n≤99)∧(v.k=3→Zgz v.t):=by
 obtain⟨l,g1,g2,g3,g4,g5,g6,g7⟩:=h;refine⟨fun _=>by rw[g5];exact numOf_bd l,fun hk=>?_⟩;have hk3:(Yf l).1=3:=by rw[←g2];exact hk
 cases l with
 |nil=>simp[Yf]at g1
 |cons c r=>
  have key:(Yf (c::r)).1=3→c=34∧tw (Xe 34) r<r.length∧Zbt (strOfNums (r.take (tw (Xe 34) r)))=true∧Yf (c::r)=(3,1,tw (Xe 34) r+1,tw (Xe 34) r+2):=by
   refine Jj c r (fun x=>x.1=3→c=34∧tw (Xe 34) r<r.length∧Zbt (strOfNums (r.take (tw (Xe 34) r)))=true∧x=(3,1,tw (Xe 34) r+1,tw (Xe 34) r+2)) ?_ ?_ ?_ ?_ ?_ ?_ ?_ ?_
   ·intro _ hh;simp at hh
   ·intro _ _ _ hh;simp at hh
   ·intro _ _ hh;simp at hh
   ·intro _ hh;simp at hh
   ·intro h1 h2 h3 _;exact⟨h1,h2,h3,rfl⟩
   ·intro _ _ hh;simp at hh
   ·intro _ _ _ _ _ hh;simp at hh
   ·intro _ _ _ _ _ hh;simp at hh
  obtain⟨k1,k2,k3,k4⟩:=key hk3;rw[k4]at g3 g4;have e1:((c::r).take (tw (Xe 34) r+1)).drop 1=r.take (tw (Xe 34) r):=by rw[List.take_succ_cons,List.drop_succ_cons,List.drop_zero]
  dsimp only at g3 g4;rw[e1]at g4;unfold txt at g3;rw[if_pos hk,List.take_succ_cons,k1]at g3;have g3':=(List.cons.inj g3).2
  have e2:bL v.t=r.take (tw (Xe 34) r):=by
   have hlen:=congrArg List.length g3';rw[List.length_append,List.length_take,List.length_cons,List.length_nil]at hlen;have hz:(bL v.t).length=tw (Xe 34) r:=by omega
   have:=congrArg (List.take (tw (Xe 34) r)) g3';rw[List.take_append_of_le_length (by omega),List.take_of_length_le (by omega),List.take_take,Nat.min_eq_left (by omega)]at this;exact this
  refine⟨by rw[g4];exact k3,fun x hx=>?_⟩;have hb:=Zmm v.t x hx;rw[e2]at hx;have:=Zms (Xe 34) r x hx;rw[Zba]at this;exact⟨hb.1,hb.2,this⟩
theorem Sh.row{L:List TokV}(h:Sh L):∀ a,((Zv L a).k=2→0≤(Zv L a).n∧(Zv L a).n≤99)∧((Zv L a).k=3→Zgz (Zv L a).t):=by
 have z:∀ v:TokV,v.k=0→(v.k=2→0≤v.n∧v.n≤99)∧(v.k=3→Zgz v.t):=fun v hv=>⟨fun h=>by omega,fun h=>by omega⟩
 induction h with
 |fin v hk ht hn=>
  intro a;cases a with
  |zero=>rw[Zel];exact z v hk
  |succ a=>exact z _ (by simp[Zv,zTok])
 |tok v L hg hL ih=>
  intro a;cases a with
  |zero=>rw[Zel];exact good_row hg
  |succ a=>rw[Zip];exact ih a
theorem Sh.ok{L:List TokV}(h:Sh L):Vm L:=⟨fun a=>(h.row a).1,fun a=>(h.row a).2⟩
theorem text_ok(s:ByteArray)(hs:s.size≤65536):(∃ F,Up s=.bad F∧Wk s=[])∨(Up s=.ok 0 0∧Vm (Wk s)):=by
 obtain⟨L,E,p,hc⟩:∃ L E p,Uq s 0 []=(L,E,p):=⟨_,_,_,rfl⟩
 have hf:=Zgl s s.size 0 [] L E p (by omega) (by omega) (Bd.zero s) hc;unfold Up Wk;rw[Zeq s hs hc];by_cases hE:E=0
 ·obtain⟨L2,h2,h3⟩:=hf.1 hE
  have e:L=L2:=h2;subst e;right;rw[if_pos hE];exact⟨rfl,h3.sh.ok⟩
 ·left
  rw[if_neg hE];exact⟨_,if_neg hE,rfl⟩
theorem over_good{L:List TokV}{st:St}(h:(Xh L st).good=true):st.good=true:=by
 cases st with
 |ok a d=>rfl
 |bad F=>exact h
theorem file_off(nk:Int)(L:List TokV)(n:Nat)(F:Int×Nat×Nat):Ve nk L (n+1) (.bad F)=(⟨[],[]⟩,.bad F):=by
 rw[Ve];rfl
theorem parse_val(nk:Int)(s:ByteArray)(hs:s.size≤65536):VFi (Zjm nk s).1:=by
 unfold Zjm;dsimp only;by_cases hg:(Xh (Wk s) (fileO nk s).2).good=true
 ·rw[if_pos hg]
  have h2:=over_good hg;unfold fileO at h2 ⊢;rcases text_ok s hs with⟨F,e1,e2⟩ | ⟨e1,hr⟩
  ·rw[e1,show Zbj s=(Zbj s - 1)+1 from by unfold Zbj;omega,file_off]at h2
   cases h2
  ·exact(file_val hr (Zbj s) (Up s) (by have:=Zjx s;unfold Zbj;omega) h2 ⟨0,e1⟩).2
 ·rw[if_neg hg]
  exact⟨(fun c hc=>by cases hc),fun p hp=>by cases hp⟩
open Go Go.RowKit
theorem push_at{P:Program}{w w':World}(base:Nat)(t u ty e:TypeId)(i:TypeInfo)(ht:P.underlying t=some (.slice e))(hu:P.underlying u=some .string)(hi:P.info? e=some i)(hz:i.zero=some (.int .u8 0))
  (hsize:i.size=1)(hby:i.bytes=1)(v v':Value)(n:Nat)(xs:List Value)(hown:w.ownsRow base e 1 v n xs)(s:ByteArray)(h63:n+s.size≤maxLen)(hbytes:n+s.size≤140737488355328)
  (hr:(Builtin.append_ #[t,u] ty #[v,.string s]).run P w=.ok v' w'):v'.ownBlock=v.ownBlock∨v'.ownBlock=some w.heap.size:=by
 have hsmall:n+s.size≤9223372036854775807:=by simp only[maxLen]at h63;omega
 have hxl:xs.length=n:=by simpa using hown.1
 rcases hown.2 with⟨rfl,rfl⟩ | ⟨g,cap,cur,rfl,hbg,hg,hnc,hcm,hcs,htake⟩
 ·by_cases hm:s.size=0
  ·have hf:=Lib.run_firstCells_string (P:=P) w 1 s
   rw[hm]at hf
   have h2:(Builtin.append_ #[t,u] ty #[.slice none 0 0,.string s]).run P w=.ok (.slice none 0 0) w:=by
    simp[Builtin.append_,run_underlying ht,run_underlying hu,sizeOf,typeInfo,hi,hsize,Builtin.lenOf,hm,hf]
   rw[h2]at hr;injection hr with e1 e2;subst e1;exact .inl rfl
  ·have h2:=run_append_nil_string (P:=P) w t u ty e i (.int .u8 0) ht hu hi hz s (by omega) (by omega) (by rw[hby];omega)
   rw[h2]at hr;injection hr with e1 e2;subst e1;exact .inr rfl
 ·by_cases hroom:n+s.size≤cap
  ·have hcs':cur.size=cap:=by simpa using hcs
   have h2:=Lib.run_append_room_string (P:=P) w t u ty e i ht hu hi hsize g n cap cur hg s hroom (by omega);rw[h2]at hr;injection hr with e1 e2;subst e1;exact .inl rfl
  ·have holds:∀ j u,xs[j]?=some u→w.cell? ((⟨g,0,none⟩:Addr).add j)=some u:=hown.cells (g:=g) rfl
   have h2:=Lib.run_append_grow_string (P:=P) w t u ty e i (.int .u8 0) ht hu hi hz ⟨g,0,none⟩ n cap xs (by rw[hsize];simpa using hxl) holds s (by omega) (by omega) (by rw[hby];exact growslice_fits (by omega) (by omega));rw[h2]at hr;injection hr with e1 e2;subst e1;exact .inr rfl
theorem wpList_pushAt{P:Program}{w:World}{ops:Array Oper}{rest:List Oper}{o:Oper}{a:Act}{Q:Exit→Act→World→Prop}(sl x:Operand)(t u e:TypeId)
  (ht:P.underlying t=some (.slice e))(hu:P.underlying u=some .string)(hinfo:(P.info? e).map (fun i=>(i.zero,i.size,i.bytes))=some (some (.int .u8 0),1,1))
  (hgd:o.guard=none)(ho:o.op=.call { callee:=.builtin .append,args:=#[sl,x],argTypes:=#[t,u] })
  (base:Nat)(v:Value)(n:Nat)(l m:List Int)(hs:a.eval sl=v)(hown:w.ownsRow base e 1 v n (l.map (Value.int .u8)))(hx:a.eval x=.string (strOfNums m))(hm:∀ x ∈ m,0≤x∧x<256)
  (hn:n+m.length≤1099511627776)(hbase:base≤w.heap.size)
  (h:∀ v' w',w'.ownsRow base e 1 v' (n+m.length) ((l++m).map (Value.int .u8))→w.grownBy w' v.ownBlock→(v'.ownBlock=v.ownBlock∨v'.ownBlock=some w.heap.size)→wpList P ops Q rest (a.put o.dst v') w'):wpList P ops Q (o::rest) a w:=by
 obtain⟨i,hi,hz,hsize,hbytes⟩:=info_parts hinfo;have hsz:(strOfNums m).size=m.length:=strOfNums_size m;refine wpList_plain hgd fun K hK=>?_
 obtain⟨v',w',hr,h2,h3,h4⟩:=Lib.run_append_own_string (P:=P) w base t u o.type e i ht hu hi hz hsize hbytes v n _ hown (strOfNums m) (by rw[hsz];unfold maxLen;omega) (by rw[hsz];omega) hbase;have h5:=push_at base t u o.type e i ht hu hi hz hsize hbytes v v' n _ hown (strOfNums m) (by rw[hsz];unfold maxLen;omega) (by rw[hsz];omega) hr;unfold Oper.wp execOp;simp only[ho,resolve,invoke,builtin,Sem.run_bind,Sem.run_pure,Result.andThen_ok,List.map_toArray,List.map_cons,List.map_nil,hs,hx,hr];rw[hsz,strCells_str m hm,←List.map_append]at h2;exact hK _ _ (h v' w' h2 h3 h5)
theorem Zf.shape{w:World}{g:Nat}{t:TypeId}{cs:Array Value}(h:Zf w g t cs):w.shape? g=some (t,cs.size):=by
 unfold Zf at h;simp[World.shape?,h]
theorem bd_size:∃ j,Tryz.prog.info? 119=some j∧j.size≠0:=by
 have h:(Tryz.prog.info? 119).map (fun i=>decide (i.size≠0))=some true:=by kernel_rfl
 obtain⟨j,hj,hz⟩:=Option.map_eq_some_iff.1 h;exact⟨j,hj,by simpa using hz⟩
theorem bd_used(b:Nat)(w:World)(h0:w.cell? ⟨b,0,none⟩=some (.pointer (some ⟨b,0,none⟩))) :
  Calls Tryz.prog 113 #[.pointer (some ⟨b,0,none⟩)] w fun e w'=>e=.returned (.tuple #[])∧w=w':=by
 obtain⟨j,hj,hz⟩:=bd_size;have hq:=Lib.run_neq_ptr_same (P:=Tryz.prog) w ⟨b,0,none⟩ Tryz.underlying116 hj;go_enter Tryz.func113,Tryz.ntmps113;go_wp2
 go_end0
 exact⟨rfl,rfl⟩
theorem bd_fresh(T:TypeId)(n:Nat)(b:Nat)(w:World)(h0:w.cell? ⟨b,0,none⟩=some (.pointer none))(hsh:w.shape? b=some (T,n))(hn:0<n)(hl:liesAt Tryz.prog Tryz.prog.depth T (n / Tryz.prog.cellsOf T) 0 119 1=true)(hfz:w.frozen? ⟨b,0,none⟩=false) :
  Calls Tryz.prog 113 #[.pointer (some ⟨b,0,none⟩)] w fun e w'=>e=.returned (.tuple #[])∧w'=w.setCell ⟨b,0,none⟩ (.pointer (some ⟨b,0,none⟩)):=by
 obtain⟨j,hj,hz⟩:=bd_size;have q1:=Lib.run_to_unsafe (P:=Tryz.prog) w ⟨b,0,none⟩ Tryz.underlying116 Tryz.underlying219 hj hz hsh hn;have q2:=Lib.run_from_unsafe (P:=Tryz.prog) w ⟨b,0,none⟩ Tryz.underlying219 Tryz.underlying116 hj hsh hl
 have q3:∀ y,(callFunc 148 #[.pointer (some ⟨b,0,none⟩)]).run Tryz.prog y=.ok (.value (.pointer (some ⟨b,0,none⟩))) y:=fun y=>by
  rw[run_callFunc_extern Tryz.func148 (by kernel_rfl) (by kernel_rfl) (by kernel_rfl) (e:=Extern.AbiNoEscape.same) (by kernel_rfl),Lib.run_noEscape];rfl
 have q4:=Lib.run_neq_ptr_same (P:=Tryz.prog) (w.setCell ⟨b,0,none⟩ (.pointer (some ⟨b,0,none⟩))) ⟨b,0,none⟩ Tryz.underlying116 hj;clear hsh hl;go_enter Tryz.func113,Tryz.ntmps113;go_wp2
 go_end0
 exact⟨rfl,rfl⟩
structure Zal(T:TypeId)(rest:List Value)(B:Nat)(w:World)(b:Nat)(a v:Value)(bs:List Int):Prop where
 whole:Zf w b T (a::v::rest).toArray
 row:w.ownsRow B 5 1 v bs.length (bs.map (Value.int .u8))
 lo:B≤b
 far:v.ownBlock≠some b
 used:a=.pointer none∨a=.pointer (some ⟨b,0,none⟩)
structure Vs(b:Nat)(v:Value)(w:World)(v':Value)(w':World):Prop where
 keeps:Zq (fun k=>k=b∨v.ownBlock=some k) w w'
 fresh:∀ k,v'.ownBlock=some k→v.ownBlock=some k∨w.heap.size≤k
theorem Vs.refl(b:Nat)(v:Value)(w:World):Vs b v w v w:=⟨Zq.refl _ _,fun _ h=>.inl h⟩
theorem Vs.of_below{b:Nat}{v:Value}{w w':World}(h:Below w.heap.size w w'):Vs b v w v w':=⟨Zq.of_below h,fun _ h=>.inl h⟩
theorem Vs.trans{b:Nat}{v v1 v2:Value}{x y z:World}(h:Vs b v x v1 y)(k:Vs b v1 y v2 z):Vs b v x v2 z:=by
 refine⟨⟨k.keeps.os.trans h.keeps.os,k.keeps.tape.trans h.keeps.tape,k.keeps.output.trans h.keeps.output,Nat.le_trans h.keeps.size k.keeps.size,fun i hi hn=>?_⟩,fun i hi=>?_⟩
 ·refine(k.keeps.block i (Nat.lt_of_lt_of_le hi h.keeps.size) (fun c=>?_)).trans (h.keeps.block i hi hn)
  rcases c with c | c
  ·exact hn (.inl c)
  ·rcases h.fresh i c with e | e
   ·exact hn (.inr e)
   ·omega
 ·rcases k.fresh i hi with e | e
  ·exact h.fresh i e
  ·exact .inr (Nat.le_trans h.keeps.size e)
theorem Zal.below{T:TypeId}{rest:List Value}{B:Nat}{w w':World}{b:Nat}{a v:Value}{bs:List Int}(h:Zal T rest B w b a v bs)(hb:Below w.heap.size w w'):Zal T rest B w' b a v bs:=
 ⟨h.whole.below hb h.whole.inside,Un h.row hb,h.lo,h.far,h.used⟩
theorem Zal.self{T:TypeId}{rest:List Value}{B:Nat}{w:World}{b:Nat}{a v:Value}{bs:List Int}(h:Zal T rest B w b a v bs):Zal T rest B (w.setCell ⟨b,0,none⟩ (.pointer (some ⟨b,0,none⟩))) b (.pointer (some ⟨b,0,none⟩)) v bs:=
 ⟨by have:=h.whole.write 0 (.pointer (some ⟨b,0,none⟩));simpa using this,Zae h.row h.far _,h.lo,h.far,.inr rfl⟩
theorem bdCheck{T:TypeId}{rest:List Value}{B:Nat}{w:World}{b:Nat}{a v:Value}{bs:List Int}(h:Zal T rest B w b a v bs)(hl:liesAt Tryz.prog Tryz.prog.depth T ((rest.length+2) / Tryz.prog.cellsOf T) 0 119 1=true) :
  Calls Tryz.prog 113 #[.pointer (some ⟨b,0,none⟩)] w fun e w'=>e=.returned (.tuple #[])∧Zal T rest B w' b (.pointer (some ⟨b,0,none⟩)) v bs∧Vs b v w v w':=by
 have c0:w.cell? ⟨b,0,none⟩=some a:=by rw[h.whole.read];rfl
 rcases h.used with hu | hu
 ·rw[hu]at c0
  refine(bd_fresh T (rest.length+2) b w c0 (by rw[h.whole.shape];simp) (by omega) hl (h.whole.thawed 0)).mono ?_;rintro e w' ⟨rfl,rfl⟩;exact⟨rfl,h.self,(Zq.refl _ w).setCell (p:=⟨b,0,none⟩) (.inl rfl) _,fun k hk=>.inl hk⟩
 ·rw[hu]at c0
  refine(bd_used b w c0).mono ?_;rintro e w' ⟨rfl,rfl⟩;subst hu;exact⟨rfl,h,Vs.refl _ _ _⟩
theorem Zal.pushed{T:TypeId}{rest:List Value}{B:Nat}{w w':World}{b:Nat}{a v v':Value}{bs m:List Int}(h:Zal T rest B w b a v bs)(ho:w'.ownsRow B 5 1 v' (bs.length+m.length) ((bs++m).map (Value.int .u8)))(hg:w.grownBy w' v.ownBlock)
  (hat:v'.ownBlock=v.ownBlock∨∃ q,v'.ownBlock=some q∧w.heap.size≤q):Zal T rest B (w'.setCell ⟨b,1,none⟩ v') b a v' (bs++m)∧Vs b v w v' (w'.setCell ⟨b,1,none⟩ v'):=by
 have hk:Zq (fun k=>v.ownBlock=some k) w w':=Zq.grown (Zq.refl _ _) hg fun k hk=>hk
 have hin:=h.whole.inside
 have n1:v'.ownBlock≠some b:=by
  rcases hat with e | ⟨q,e,hq⟩<;>rw[e]
  ·exact h.far
  ·intro c;injection c with c;omega
 refine⟨⟨by have:=(hk.whole h.whole h.far).write 1 v';simpa using this,?_,h.lo,n1,h.used⟩,(hk.mono fun q hq=>.inr hq).setCell (p:=⟨b,1,none⟩) (.inl rfl) _,fun k hk=>?_⟩
 ·rw[List.length_append];exact Zae ho n1 _
 ·rcases hat with e | ⟨q,e,hq⟩
  ·exact .inl (by rw[←e];exact hk)
  ·rw[e]at hk;injection hk with hk;exact .inr (by omega)
theorem und_byt:Tryz.prog.underlying 117=some (.slice 5):=by kernel_rfl
theorem info_byt:(Tryz.prog.info? 5).map (fun i=>(i.zero,i.size,i.bytes))=some (some (.int .u8 0),1,1):=by kernel_rfl
theorem Zgx{T:TypeId}{rest:List Value}{B:Nat}{w:World}{b:Nat}{a v:Value}{bs:List Int}(m:List Int)(hm:∀ x ∈ m,0≤x∧x<256)(h:Zal T rest B w b a v bs)(hl:liesAt Tryz.prog Tryz.prog.depth T ((rest.length+2) / Tryz.prog.cellsOf T) 0 119 1=true)
  (hn:bs.length+m.length≤1099511627776)(hB:B≤w.heap.size) :
  Calls Tryz.prog 85 #[.pointer (some ⟨b,0,none⟩),.string (strOfNums m)] w fun e w'=>e=.returned (.tuple #[.int .i64 (m.length:Int),.nilIface])∧∃ v',Zal T rest B w' b (.pointer (some ⟨b,0,none⟩)) v' (bs++m)∧Vs b v w v' w':=by
 have C0:=Hh (bdCheck h hl);have HM:=Hh hm;have HN:=Hh hn;have hms:=strOfNums_size m;clear h hl hm hn;go_enter Tryz.func85,Tryz.ntmps85;go_wp2_with(first
 |(go_at_call 113;refine C0.out.mono ?_;rintro e w1 ⟨rfl,h1,s1⟩
   have H1:=Hh h1;have S1:=Hh s1;have c1:w1.cell? ⟨b,1,none⟩=some v:=by rw[h1.whole.read];rfl
   have z1:=h1.whole.thawed 1;have hsz:=s1.keeps.size;clear h1 s1)
 |(at_builtin;refine wpList_pushAt (.tmp 12) (.tmp 13) 117 9 5 und_byt (by kernel_rfl) info_byt rfl rfl B _ _ bs m rfl H1.out.row rfl HM.out HN.out (Nat.le_trans hB hsz) ?_;intro v2 w2 o2 g2 at2
   obtain⟨A2,d2,rfl,_⟩:=Xd o2;have P2:=Hh (H1.out.pushed o2 g2 (at2.elim .inl fun e=>.inr ⟨_,e,Nat.le_refl _⟩));have hk2:Zq (fun k=>v.ownBlock=some k) w1 w2:=Zq.grown (Zq.refl _ _) g2 fun k hk=>hk
   have z2:=(hk2.whole H1.out.whole H1.out.far).thawed 1;have c2:w2.cell? ⟨b,1,none⟩=some v:=by rw[(hk2.whole H1.out.whole H1.out.far).read];rfl
   clear o2 g2 at2 hk2))
 go_ret2
 exact⟨rfl,_,P2.out.1,S1.out.trans P2.out.2⟩
theorem Zky{T:TypeId}{rest:List Value}{B:Nat}{w:World}{b:Nat}{a v:Value}{bs:List Int}(c:Int)(h:Zal T rest B w b a v bs)(hl:liesAt Tryz.prog Tryz.prog.depth T ((rest.length+2) / Tryz.prog.cellsOf T) 0 119 1=true)
  (hn:bs.length≤68719476736)(hB:B≤w.heap.size) :
  Calls Tryz.prog 84 #[.pointer (some ⟨b,0,none⟩),.int .u8 c] w fun e w'=>e=.returned .nilIface∧∃ v',Zal T rest B w' b (.pointer (some ⟨b,0,none⟩)) v' (bs++[c])∧Vs b v w v' w':=by
 have C0:=Hh (bdCheck h hl);have HN:=Hh hn;clear h hl hn;go_enter Tryz.func84,Tryz.ntmps84;go_wp2_with(first
 |(go_at_call 113;refine C0.out.mono ?_;rintro e w1 ⟨rfl,h1,s1⟩
   have H1:=Hh h1;have S1:=Hh s1;have c1:w1.cell? ⟨b,1,none⟩=some v:=by rw[h1.whole.read];rfl
   have z1:=h1.whole.thawed 1;have hsz:=s1.keeps.size;clear h1 s1)
 |(at_builtin;refine Wi (.tmp 11) (.tmp 13) 117 5 1 1 _ und_byt info_byt rfl (by decide) (by decide) B v bs.length (bs.map (Value.int .u8)) [.int .u8 c] (Un H1.out.row (Zi w1 _)) w1.heap.size (Zf.made _ _ _) rfl (by simp[Value.oneCell']) HN.out (by simp;omega) rfl rfl rfl rfl ?_;intro v2 w2 o2 g2 at2
   obtain⟨A2,d2,rfl,_⟩:=Xd o2;have H1':=H1.out.below (Zi w1 (.cells #[.int .u8 c] 5));have P2:=Hh (H1'.pushed (m:=[c]) (by simpa using o2) g2 (at2.elim .inl fun e=>.inr ⟨_,e,Nat.le_refl _⟩));have S2:=Hh (S1.out.trans (Vs.of_below (Zi w1 (.cells #[.int .u8 c] 5))));have hk2:Zq (fun k=>v.ownBlock=some k) _ w2:=Zq.grown (Zq.refl _ _) g2 fun k hk=>hk
   have z2:=(hk2.whole H1'.whole H1'.far).thawed 1;have c2:w2.cell? ⟨b,1,none⟩=some v:=by rw[(hk2.whole H1'.whole H1'.far).read];rfl
   clear o2 g2 at2 hk2 H1'))
 go_ret;exact⟨rfl,_,P2.out.1,S2.out.trans P2.out.2⟩
set_option maxRecDepth 100000 in
theorem bdText{T:TypeId}{rest:List Value}{B:Nat}{w:World}{b:Nat}{a v:Value}(l:List UInt8)(h0:l≠[])(h:Zal T rest B w b a v (l.map fun x=>(x.toNat:Int))) :
  Calls Tryz.prog 55 #[.pointer (some ⟨b,0,none⟩)] w fun e w'=>e=.returned (.string ⟨l.toArray⟩)∧Below B w w':=by
 have hown:=h.row;have c1:w.cell? ⟨b,1,none⟩=some v:=by rw[h.whole.read];rfl
 have hl0:l.length≠0:=by simpa using h0
 rw[List.length_map]at hown
 obtain⟨g,cap,cur,rfl,hbg,hg,hnc,hcm,hcs,htake⟩:∃ g cap cur,v=.slice (some ⟨g,0,none⟩) l.length cap∧B≤g∧w.heap[g]?=some (.cells cur 5 (0,0))∧l.length≤cap∧cap≤maxLen∧cur.size=cap*1∧cur.toList.take (l.length*1)=(l.map fun x=>(x.toNat:Int)).map (Value.int .u8):=by
  rcases hown.2 with⟨_,hz⟩ | ⟨g,cap,cur,hv,r⟩
  ·exact absurd hz hl0
  ·exact⟨g,cap,cur,hv,r⟩
 unfold maxLen at hcm
 have hSD:(Builtin.unsafeSliceData_ #[117] 153 #[.slice (some ⟨g,0,none⟩) l.length cap]).run Tryz.prog w.drew=.ok (.pointer (some ⟨g,0,none⟩)) w.drew:=
  Lib.run_unsafeSliceData_row _ _ _ _ _ _ (by omega)
 have hUS:(Builtin.unsafeString_ #[153,3] 9 #[.pointer (some ⟨g,0,none⟩),.int .i64 l.length]).run Tryz.prog w.drew=.ok (.string ⟨l.toArray⟩) (w.drew.freeze ⟨g,0,none⟩ l.length):=by
  refine Lib.run_unsafeString_row w.drew 153 3 9 5 Tryz.underlying153 (by kernel_rfl) g cur.size (by have hg':w.drew.heap[g]?=some (.cells cur 5 (0,0)):=hg;simp[World.shape?,hg']) l h0 (by omega) (by omega) ?_;intro j x hx;have hj:j<l.length:=(List.getElem?_eq_some_iff.1 hx).1;have h3:=World.ownsRow.cellAt hown j (by omega);have h4:w.cell? ⟨g,j,none⟩=some (.int .u8 x.toNat):=by rw[h3];simp[hx]
  have e:(⟨g,0,none⟩:Addr).add j=⟨g,j,none⟩:=by rw[Addr.add_lit,Nat.zero_add]
  rw[e];exact h4
 clear hown htake hcs hg h;go_enter Tryz.func55,Tryz.ntmps55;go_wp2
 go_region
 all_goals(go_wp2;go_ret;exact⟨rfl,Lib.below_freeze (Below.drew (Below.refl B w)) (p:=⟨g,0,none⟩) hbg _⟩)
theorem Zdq:liesAt Tryz.prog Tryz.prog.depth 121 (3 / Tryz.prog.cellsOf 121) 0 119 1=true:=by kernel_rfl
def spB(lo:Bool)(t:List Int):Bool:=lo && (decide (t≠[59]) && decide (t≠[41]))
def Zhd(s:List Int×Bool)(t:List Int):List Int×Bool:=(s.1++(if spB s.2 t then [32]else [])++t,decide (t≠[40]))
def Zdo(s:List Int×Bool)(ts:List (List Int)):List Int×Bool:=ts.foldl Zhd s
theorem puts_len(ts:List (List Int)):∀ s:List Int×Bool,(Zdo s ts).1.length≤s.1.length+(ts.map fun t=>t.length+1).sum:=by
 induction ts with
 |nil=>intro s;simp[Zdo]
 |cons t r ih=>
  intro s;have h:=ih (Zhd s t);have h2:(Zhd s t).1.length≤s.1.length+(t.length+1):=by unfold Zhd;split<;>simp<;>omega
  simp only[Zdo,List.foldl_cons,List.map_cons,List.sum_cons]at h ⊢;omega
theorem puts_take(ts:List (List Int))(s:List Int×Bool){k:Nat}(hk:k<ts.length):Zdo s (ts.take (k+1))=Zhd (Zdo s (ts.take k)) ts[k]:=by
 unfold Zdo;rw[List.take_succ_eq_append_getElem hk,List.foldl_append];rfl
theorem Zal.setLo{T:TypeId}{x:Bool}{B:Nat}{w:World}{b:Nat}{a v:Value}{bs:List Int}(h:Zal T [.bool x] B w b a v bs)(y:Bool):Zal T [.bool y] B (w.setCell ⟨b,2,none⟩ (.bool y)) b a v bs:=
 ⟨by have:=h.whole.write 2 (.bool y);simpa using this,Zae h.row h.far _,h.lo,h.far,h.used⟩
theorem Vs.setLo{b:Nat}{v v':Value}{w w':World}(h:Vs b v w v' w')(y:Value):Vs b v w v' (w'.setCell ⟨b,2,none⟩ y):=
 h.trans ⟨(Zq.refl _ _).setCell (p:=⟨b,2,none⟩) (.inl rfl) _,fun _ hk=>.inl hk⟩
theorem byte1(c:Int)(h:0≤c∧c<256)(t:List Int)(ht:∀ x ∈ t,0≤x∧x<256):((strOfNums t).toList == (strOfNums [c]).toList)=decide (t=[c]):=
 Zjf t [c] ht (by intro x hx;cases List.mem_singleton.1 hx;exact h)
theorem s59:(strOfNums [59]).toList=[59]:=by decide +kernel
theorem s41:(strOfNums [41]).toList=[41]:=by decide +kernel
theorem s40:(strOfNums [40]).toList=[40]:=by decide +kernel
theorem prPut(B:Nat)(w:World)(b:Nat)(a v:Value)(s:List Int×Bool)(ts:List (List Int))(q c:Nat)(h:Zal 121 [.bool s.2] B w b a v s.1)(hB:B≤w.heap.size)(hl:s.1.length+(ts.map fun t=>t.length+1).sum≤10000000000)(ht:ts.length≤1000)
  (hby:∀ t ∈ ts,∀ x ∈ t,0≤x∧x<256)(hq:∀ j t,ts[j]?=some t→w.cell? ⟨q,j,none⟩=some (.string (strOfNums t)))(hqs:q<w.heap.size)(hqb:q≠b)(hqv:v.ownBlock≠some q) :
  Calls Tryz.prog 56 #[.pointer (some ⟨b,0,none⟩),.slice (some ⟨q,0,none⟩) ts.length c] w fun e w'=>e=.returned (.tuple #[])∧∃ a' v',Zal 121 [.bool (Zdo s ts).2] B w' b a' v' (Zdo s ts).1∧Vs b v w v' w':=by
 have H0:=Hh h;have HQ:=Hh hq;have HL:=Hh hl;have HBY:=Hh hby;clear h hq hl hby;go_enter Tryz.func56,Tryz.ntmps56;go_wp2
 go_loopw [8] (fun i wr=>∃(k:Nat)(a' v':Value),i=.int .i64 (k:Int)∧k≤ts.length∧Zal 121 [.bool (Zdo s (ts.take k)).2] B wr b a' v' (Zdo s (ts.take k)).1∧Vs b v w v' wr) (fun i _=>ts.length - (intOf i).toNat)
 case atStart=>exact⟨0,a,v,rfl,by omega,H0.out,Vs.refl _ _ _⟩
 case round=>
  obtain⟨k,a',v',rfl,hk,hb,hs⟩:=hrel;have hcq:Zq (fun j=>j=b∨v.ownBlock=some j) w wr:=hs.keeps;by_cases hkn:k<ts.length
  · have l1:decide ((k:Int)<(ts.length:Int))=true:=by simp[hkn]
    have hct:wr.cell? ⟨q,k,none⟩=some (.string (strOfNums ts[k])):=by
     rw[World.cell?_of_block (a:=⟨q,k,none⟩) (hcq.block q hqs (fun c=>c.elim hqb hqv))];exact HQ.out k _ (List.getElem?_eq_getElem hkn)
    have hmt:=Hh (HBY.out ts[k] (List.getElem_mem hkn));have hst:=Hh (puts_take ts s hkn)
    have hlk:(Zdo s (ts.take k)).1.length+(ts[k].length+1)≤10000000000:=by
     have h1:=puts_len (ts.take k) s
     have h2:((ts.take k).map fun t=>t.length+1).sum+(ts[k].length+1)≤(ts.map fun t=>t.length+1).sum:=by
      have e:ts=ts.take k++ts[k]::ts.drop (k+1):=by rw[List.getElem_cons_drop,List.take_append_drop]
      conv=>rhs;rw[e]
      rw[List.map_append,List.sum_append,List.map_cons,List.sum_cons];omega
     have:=HL.out;omega
    generalize hsk:Zdo s (ts.take k)=sk at *;generalize ts[k]=t at *;obtain⟨bs,lo⟩:=sk;simp only at hb hlk hst;have HB:=Hh hb;have HS:=Hh hs;have hc2:wr.cell? ⟨b,2,none⟩=some (.bool lo):=by rw[hb.whole.read];rfl
    have hz2:=hb.whole.thawed 2;clear hb hs hcq hsk;have b40:=byte1 40 (by decide) t hmt.out;have b41:=byte1 41 (by decide) t hmt.out;have b59:=byte1 59 (by decide) t hmt.out;rw[s40]at b40;rw[s41]at b41;rw[s59]at b59;have B40:=Hh b40;have hnl:∀ c:List UInt8,((strOfNums t).toList == c)=false→¬(strOfNums t).toList=c:=fun c h=>by simpa using h
    cases lo with
    |false=>
     have HP:Hid (Zhd (bs,false) t=(bs++t,!((strOfNums t).toList == [40]))):=Hh (by rw[B40.out];simp[Zhd,spB]);clear b40 b41 b59 hnl;go_wp2_with(first
 |(go_at_call 84;refine(Zky 32 HB.out Zdq (by have:=hlk;omega) (Nat.le_trans hB HS.out.keeps.size)).mono ?_;rintro e w1 ⟨rfl,v1,h1,s1⟩
   have H1:=Hh h1;have S1:=Hh (HS.out.trans s1);clear h1 s1)
 |(go_at_call 85;refine(Zgx t hmt.out HB.out Zdq (by have:=hlk;simp;omega) (Nat.le_trans hB HS.out.keeps.size)).mono ?_;rintro e w2 ⟨rfl,v2,h2,s2⟩
   have H2:=Hh h2;have S2:=Hh (HS.out.trans s2);have c2:w2.cell? ⟨b,2,none⟩=some (.bool false):=by rw[h2.whole.read];rfl
   have z2:=h2.whole.thawed 2
   clear h2 s2))
     go_roundw
     case rel=>exact⟨k+1,_,v2,by go_num,by omega,by rw[hst.out,HP.out];exact H2.out.setLo _,S2.out.setLo _⟩
     case measure=>simp[intOf];omega
    |true=>
     by_cases h59:t=[59]
     ·have HP:Hid (Zhd (bs,true) t=(bs++t,!((strOfNums t).toList == [40]))):=Hh (by rw[B40.out];simp[Zhd,spB,h59])
      have g1:((strOfNums t).toList == [59])=true:=by rw[b59];simpa using h59
      have g2:(strOfNums t).toList=[59]:=by simpa using g1
      have G2:=Hh g2;clear b40 b41 b59 hnl h59 g2;go_wp2_with(first
 |(go_at_call 84;refine(Zky 32 HB.out Zdq (by have:=hlk;omega) (Nat.le_trans hB HS.out.keeps.size)).mono ?_;rintro e w1 ⟨rfl,v1,h1,s1⟩
   have H1:=Hh h1;have S1:=Hh (HS.out.trans s1);clear h1 s1)
 |(go_at_call 85;refine(Zgx t hmt.out HB.out Zdq (by have:=hlk;simp;omega) (Nat.le_trans hB HS.out.keeps.size)).mono ?_;rintro e w2 ⟨rfl,v2,h2,s2⟩
   have H2:=Hh h2;have S2:=Hh (HS.out.trans s2);have c2:w2.cell? ⟨b,2,none⟩=some (.bool true):=by rw[h2.whole.read];rfl
   have z2:=h2.whole.thawed 2
   clear h2 s2))
      go_roundw
      case rel=>exact⟨k+1,_,v2,by go_num,by omega,by rw[hst.out,HP.out];exact H2.out.setLo _,S2.out.setLo _⟩
      case measure=>simp[intOf];omega
     ·by_cases h41:t=[41]
      ·have HP:Hid (Zhd (bs,true) t=(bs++t,!((strOfNums t).toList == [40]))):=Hh (by rw[B40.out];simp[Zhd,spB,h41])
       have g1:((strOfNums t).toList == [59])=false:=by rw[b59];simpa using h59
       have g1':=hnl _ g1;have g2:((strOfNums t).toList == [41])=true:=by rw[b41];simpa using h41
       clear b40 b41 b59 hnl h59 h41;go_wp2_with(first
 |(go_at_call 84;refine(Zky 32 HB.out Zdq (by have:=hlk;omega) (Nat.le_trans hB HS.out.keeps.size)).mono ?_;rintro e w1 ⟨rfl,v1,h1,s1⟩
   have H1:=Hh h1;have S1:=Hh (HS.out.trans s1);clear h1 s1)
 |(go_at_call 85;refine(Zgx t hmt.out HB.out Zdq (by have:=hlk;simp;omega) (Nat.le_trans hB HS.out.keeps.size)).mono ?_;rintro e w2 ⟨rfl,v2,h2,s2⟩
   have H2:=Hh h2;have S2:=Hh (HS.out.trans s2);have c2:w2.cell? ⟨b,2,none⟩=some (.bool true):=by rw[h2.whole.read];rfl
   have z2:=h2.whole.thawed 2
   clear h2 s2))
       go_roundw
       case rel=>exact⟨k+1,_,v2,by go_num,by omega,by rw[hst.out,HP.out];exact H2.out.setLo _,S2.out.setLo _⟩
       case measure=>simp[intOf];omega
      ·have HP:Hid (Zhd (bs,true) t=(bs++[32]++t,!((strOfNums t).toList == [40]))):=Hh (by rw[B40.out];simp[Zhd,spB,h59,h41])
       have g1:((strOfNums t).toList == [59])=false:=by rw[b59];simpa using h59
       have g1':=hnl _ g1;have g2:((strOfNums t).toList == [41])=false:=by rw[b41];simpa using h41
       have g2':=hnl _ g2;clear b40 b41 b59 hnl h59 h41;go_wp2_with(first
 |(go_at_call 84;refine(Zky 32 HB.out Zdq (by have:=hlk;omega) (Nat.le_trans hB HS.out.keeps.size)).mono ?_;rintro e w1 ⟨rfl,v1,h1,s1⟩
   have H1:=Hh h1;have S1:=Hh (HS.out.trans s1);clear h1 s1)
 |(go_at_call 85;refine(Zgx t hmt.out H1.out Zdq (by have:=hlk;simp;omega) (Nat.le_trans hB S1.out.keeps.size)).mono ?_;rintro e w2 ⟨rfl,v2,h2,s2⟩
   have H2:=Hh h2;have S2:=Hh (S1.out.trans s2);have c2:w2.cell? ⟨b,2,none⟩=some (.bool true):=by rw[h2.whole.read];rfl
   have z2:=h2.whole.thawed 2
   clear h2 s2))
       go_roundw
       case rel=>exact⟨k+1,_,v2,by go_num,by omega,by rw[hst.out,HP.out];exact H2.out.setLo _,S2.out.setLo _⟩
       case measure=>simp[intOf];omega
  · obtain rfl:k=ts.length:=by omega
    rw[List.take_length]at hb;have HB:=Hh hb;have HS:=Hh hs;clear hb hs hcq;go_wp2
    go_end0
    exact⟨rfl,_,_,HB.out,HS.out⟩
theorem lastDigit_any(n:Int)(h1 : -9223372036854775808≤n)(h2:n≤9223372036854775807)(w:World):Calls Tryz.prog 86 #[.int .i64 n] w fun e w'=>e=.returned (.int .u8 (48+((n.natAbs % 10:Nat):Int)))∧w=w':=by
 have ha:(n.tmod 10).natAbs=n.natAbs % 10:=Int.natAbs_tmod n 10;have hr:n.tmod 10<10 ∧ -10<n.tmod 10:=by omega
 by_cases hn:n.tmod 10<0
 ·go_enter Tryz.func86,Tryz.ntmps86
  go_wp2
  go_ret;refine⟨rI ?_,rfl⟩;omega
 ·go_enter Tryz.func86,Tryz.ntmps86
  go_wp2
  go_ret;refine⟨rI ?_,rfl⟩;omega
theorem slice20(g:Nat)(z:Int)(f:Nat)(hz:z.toNat=f)(h0:0≤z)(h1:f<20)(W:World) :
  (Instr.sliceAt 159 (.pointer (some ⟨g,0,none⟩)) (some (.int .i64 z)) none none).run Tryz.prog W=.ok (.slice (some ⟨g,f,none⟩) (20 - f) (20 - f)) W:=by
 have hu:Tryz.prog.underlying 159=some (.array (Tryz.prog.arrayLen 159) (Tryz.prog.elem 159)):=by kernel_rfl
 have hl:Tryz.prog.arrayLen 159=20:=by kernel_rfl
 have he:Tryz.prog.elem 159=5:=by kernel_rfl
 have hs:(sizeOf 5).run Tryz.prog W=.ok 1 W:=by kernel_rfl
 rw[run_sliceAt_array_l W _ _ hu .i64 z h0 (by rw[hl];omega),he,hs,hl,hz];have hne:¬ 20=f:=by omega
 simp[slicedAt,hne,Addr.add_lit]
theorem conv_tail{W:World}{g f len:Nat}{t:TypeId}{cs:Array Value}{l:List Int}(hw:Zf W g t cs)(ht:Zgy cs f l)(hl:len=l.length) :
  ∀ dst,Tryz.prog.underlying dst=some .string→(convert 117 dst (.slice (some ⟨g,f,none⟩) len len)).run Tryz.prog W=.ok (.string (strOfNums l)) W:=
 run_convert_bytes_arg _ 117 5 (by kernel_rfl) (by kernel_rfl) g f len len l hl.symm (fun i hi=>ht.cells hw i (by omega))
theorem put_done{n m:Int}{k:Nat}{ds:List Int}(hd:k=0∧m=n∧ds=[]∨m≠0∧m.natAbs*10 ^ k≤n.natAbs∧Zce n.natAbs=Zce m.natAbs++ds)(hq:m.natAbs / 10=0):Zce n.natAbs=(48+(m.natAbs:Int) % 10)::ds:=by
 have hm:Zce m.natAbs=[48+(m.natAbs:Int) % 10]:=by rw[Zcq (by omega)];congr 1;omega
 rcases hd with⟨_,rfl,rfl⟩ | ⟨_,_,h⟩
 ·exact hm
 ·rw[h,hm];rfl
theorem put_round{n m:Int}{k:Nat}{ds:List Int}(hd:k=0∧m=n∧ds=[]∨m≠0∧m.natAbs*10 ^ k≤n.natAbs∧Zce n.natAbs=Zce m.natAbs++ds)(hq:(m.tdiv 10).natAbs=m.natAbs / 10)(hz:m.tdiv 10≠0) :
  m.tdiv 10≠0∧(m.tdiv 10).natAbs*10 ^ (k+1)≤n.natAbs∧Zce n.natAbs=Zce (m.tdiv 10).natAbs++((48+(m.natAbs:Int) % 10)::ds):=by
 have hm:Zce m.natAbs=Zce (m.tdiv 10).natAbs++[48+(m.natAbs:Int) % 10]:=by rw[Zec (by omega),hq];congr 2
 refine⟨hz,?_,?_⟩
 ·have h1:m.natAbs*10 ^ k≤n.natAbs:=by
   rcases hd with⟨rfl,rfl,_⟩ | ⟨_,h,_⟩
   ·omega
   ·exact h
  rw[hq,Nat.pow_succ,Nat.mul_comm (10 ^ k) 10,←Nat.mul_assoc];exact Nat.le_trans (Nat.mul_le_mul_right _ (Nat.div_mul_le_self _ _)) h1
 ·rcases hd with⟨_,rfl,rfl⟩ | ⟨_,_,h⟩
  ·exact hm
  ·rw[h,hm,List.append_assoc];rfl
theorem putS_neg{n:Int}{l:List Int}(hn:n<0)(h:Zce n.natAbs=l):Wu n=strOfNums (45::l):=by
 unfold Wu;rw[Zkl hn,show(-n).toNat=n.natAbs from by omega,h]
theorem putS_pos{n:Int}{l:List Int}(hn:0≤n)(h:Zce n.natAbs=l):Wu n=strOfNums l:=by
 unfold Wu;rw[Zdp hn,show n.toNat=n.natAbs from by omega,h]
theorem tail_len{cs:Array Value}{f:Nat}{l:List Int}(h:Zgy cs f l)(hc:cs.size=20):l.length=20 - f:=by have:=h.1;omega
theorem dPut_any(n:Int)(h1 : -9223372036854775808≤n)(h2:n≤9223372036854775807)(w:World):Calls Tryz.prog 58 #[.int .i64 n] w fun e w'=>e=.returned (.string (Wu n))∧Below w.heap.size w w':=by
 go_enter Tryz.func58,Tryz.ntmps58;go_wp2
 go_loopw [4,5,7] (fun f r i wr=>∃(k:Nat)(m:Int)(ds:List Int)(cs:Array Value),k≤18∧i=.int .i64 k∧f=.int .i64 (20 - (k:Int))∧r=.int .i64 m ∧ -9223372036854775808≤m∧m≤9223372036854775807∧(k=0∧m=n∧ds=[]∨m≠0∧m.natAbs*10 ^ k≤n.natAbs∧Zce n.natAbs=Zce m.natAbs++ds)∧cs.size=20∧Zgy cs (20 - k) ds∧Zf wr w.heap.size 159 cs∧Below w.heap.size w wr) (fun _ _ i _=>20 - (intOf i).toNat)
 case atStart=>exact⟨0,n,[],_,by omega,rfl,rfl,rfl,h1,h2,.inl ⟨rfl,rfl,rfl⟩,rfl,⟨rfl,fun j hj=>by simp at hj⟩,Zf.made _ _ _,(Below.refl _ _).alloc (Nat.le_refl _) _⟩
 case round=>
  obtain⟨k,m,ds,cs,hk,rfl,rfl,rfl,hm1,hm2,hd,hc,ht,hw,hb⟩:=hrel;have hi:k<20:=by omega
  have hcell:wr.cell? ⟨w.heap.size,19 - k,none⟩=some (cs[19 - k]'(by omega)):=by rw[hw.read,Array.getElem?_eq_getElem]
  have hfz:=hw.thawed (19 - k);have i0:(0:Int)≤20 - (k:Int) - 1:=by omega
  have i1:(20 - (k:Int) - 1).toNat=19 - k:=by omega
  have HB:=Hh hb;have HW:=Hh hw;have HT:=Hh ht;have HD:=Hh hd;clear hb hw ht hd;have hlast:∀ x,Calls Tryz.prog 86 #[.int .i64 m] x fun e w'=>e=.returned (.int .u8 (48+((m.natAbs % 10:Nat):Int)))∧x=w':=fun x=>lastDigit_any m hm1 hm2 x
  have hq:(m.tdiv 10).natAbs=m.natAbs / 10:=Int.natAbs_tdiv m 10;have t0:=HT.out;rw[show 20 - k=19 - k+1 from by omega]at t0;have T1:=Hh (t0.next (48+(m.natAbs:Int) % 10));clear t0;cases hz:(m.tdiv 10 == 0)with
  |true=>
   by_cases hn:n<0
   ·have hcell2:wr.cell? ⟨w.heap.size,19 - k - 1,none⟩=some (cs[19 - k - 1]'(by omega)):=by rw[HW.out.read,Array.getElem?_eq_getElem]
    have hfz2:=HW.out.thawed (19 - k - 1);have hsl:=slice20 w.heap.size (20 - (k:Int) - 1 - 1) (19 - k - 1) (by omega) (by omega) (by omega);have t1:=T1.out;rw[show 19 - k=19 - k - 1+1 from by omega]at t1;have t2:=t1.next 45;rw[show 19 - k - 1+1=19 - k from by omega]at t2;have hcv:=conv_tail (len:=20 - (19 - k - 1)) ((HW.out.write (19 - k) (.int .u8 (48+(m.natAbs:Int) % 10))).write (19 - k - 1) (.int .u8 45)) t2 (by rw[tail_len t2 (by simp[hc])]);clear t1 t2;go_wp2_with(go_at_call 86;refine(hlast _).mono ?_;rintro e w' ⟨rfl,rfl⟩)
    go_ret;refine⟨?_,(HB.out.setCell (Nat.le_refl _) _).setCell (Nat.le_refl _) _⟩;rw[putS_neg hn (put_done HD.out (by have:=eq_of_beq hz;omega))];rfl
   ·have hsl:=slice20 w.heap.size (20 - (k:Int) - 1) (19 - k) (by omega) (by omega) (by omega)
    have t1:=T1.out;have hcv:=conv_tail (len:=20 - (19 - k)) (HW.out.write (19 - k) (.int .u8 (48+(m.natAbs:Int) % 10))) t1 (by rw[tail_len t1 (by simp[hc])]);clear t1;go_wp2_with(go_at_call 86;refine(hlast _).mono ?_;rintro e w' ⟨rfl,rfl⟩)
    go_ret;refine⟨?_,HB.out.setCell (Nat.le_refl _) _⟩;rw[putS_pos (by omega) (put_done HD.out (by have:=eq_of_beq hz;omega))];rfl
  |false=>
   have hr:=Hh (put_round HD.out hq (by intro c;rw[c]at hz;cases hz))
   have hk1:k+1≤18:=by
    apply Nat.le_of_not_lt;intro c;have:10 ^ 19≤10 ^ (k+1):=Nat.pow_le_pow_right (by omega) (by omega);have h0:1≤(m.tdiv 10).natAbs:=by have:=hr.out.1;omega
    have:=Nat.mul_le_mul h0 this;have:=hr.out.2.1;omega
   go_wp2_with(go_at_call 86;refine(hlast _).mono ?_;rintro e w' ⟨rfl,rfl⟩)
   go_roundw
   case rel=>
    have t1:Zgy (cs.setIfInBounds (19 - k) (.int .u8 (48+(m.natAbs:Int) % 10))) (20 - (k+1)) ((48+(m.natAbs:Int) % 10)::ds):=by
     rw[show 20 - (k+1)=19 - k from by omega];exact T1.out
    exact⟨k+1,m.tdiv 10,_,_,hk1,by go_num,by go_num,rfl,by omega,by omega,.inr hr.out,by simp[hc],t1,HW.out.write _ _,HB.out.setCell (Nat.le_refl _) _⟩
   case measure=>simp[intOf];omega
def Zcz(l:List ByteArray):Array Value:=(l.map Value.string).toArray
def Yq(s:List Int×Bool)(ts:List ByteArray):List Int×Bool:=Zdo s (ts.map bL)
theorem Wh(s:List Int×Bool)(a b:List ByteArray):Yq s (a++b)=Yq (Yq s a) b:=by simp[Yq,Zdo,List.foldl_append]
def Wc(ts:List ByteArray):Nat:=(ts.map fun t=>t.size+1).sum
theorem Yk(a b:List ByteArray):Wc (a++b)=Wc a+Wc b:=by simp[Wc]
theorem putsB_len(ts:List ByteArray)(s:List Int×Bool):(Yq s ts).1.length≤s.1.length+Wc ts:=by
 have h:=puts_len (ts.map bL) s;have e:((ts.map bL).map fun t=>t.length+1)=ts.map fun t=>t.size+1:=by rw[List.map_map];exact List.map_congr_left fun t _=>by simp[Vr]
 rw[e]at h;exact h
theorem Zjk(B:Nat)(x:World)(b:Nat)(a v:Value)(s:List Int×Bool)(ts:List ByteArray)(q n c:Nat)(h:Zal 121 [.bool s.2] B x b a v s.1)(hB:B≤x.heap.size)(hl:s.1.length+Wc ts≤10000000000)(ht:ts.length≤1000)(hq:q=x.heap.size)(hn:n=ts.length) :
  Calls Tryz.prog 56 #[.pointer (some ⟨b,0,none⟩),.slice (some ⟨q,0,none⟩) n c] (x.alloc (.cells (Zcz ts) 9)) fun e w'=>e=.returned (.tuple #[])∧∃ a' v',Zal 121 [.bool (Yq s ts).2] B w' b a' v' (Yq s ts).1∧Vs b v x v' w':=by
 subst hq hn;have hlen:(ts.map bL).length=ts.length:=by simp
 have e:((ts.map bL).map fun t=>t.length+1)=ts.map fun t=>t.size+1:=by rw[List.map_map];exact List.map_congr_left fun t _=>by simp[Vr]
 have hc:=prPut B (x.alloc (.cells (Zcz ts) 9)) b a v s (ts.map bL) x.heap.size c (h.below (Zi x _)) (Nat.le_trans hB (Zi x (.cells (Zcz ts) 9)).size) (by rw[e];exact hl) (by rw[hlen];exact ht)
  (fun t ht y hy=>by obtain⟨u,_,rfl⟩:=List.mem_map.1 ht;exact Zmm u y hy)
  (fun j t hj=>by
    rw[(Zf.made x 9 (Zcz ts)).read];rw[List.getElem?_map]at hj;obtain⟨u,hu,rfl⟩:=Option.map_eq_some_iff.1 hj;simp[Zcz,hu,str_bL])
  (by simp) (by have:=h.whole.inside;omega) (fun c=>by have:=(h.row.lt _ c).2;omega)
 rw[hlen]at hc;refine hc.mono ?_;rintro e w' ⟨rfl,a',v',h1,s1⟩;exact⟨rfl,a',v',h1,(Vs.of_below (Zi x _)).trans s1⟩
theorem uWordL(x:World)(k:Int)(q n c:Nat)(L:List ByteArray)(hq:q=x.heap.size)(hn:n=L.length)(h1:1≤k)(h2:k≤L.length)(h3:L.length≤1000) :
  Calls Tryz.prog 87 #[.int .i64 k,.slice (some ⟨q,0,none⟩) n c] (x.alloc (.cells (Zcz L) 9)) fun e w'=>e=.returned (.string (wd L k))∧x.alloc (.cells (Zcz L) 9)=w':=by
 subst hq hn;obtain⟨j,hj⟩:∃ j:Nat,k=(j:Int)+1:=⟨(k - 1).toNat,by omega⟩
 subst hj;have hjl:j<L.length:=by omega
 have hw:wd L ((j:Int)+1)=L[j]:=by
  have e:((j:Int)+1).toNat - 1=j:=by omega
  unfold wd;rw[e,List.getElem?_eq_getElem hjl];rfl
 have hc:(x.alloc (.cells (Zcz L) 9)).cell? ⟨x.heap.size,j,none⟩=some (.string (wd L ((j:Int)+1))):=by
  rw[(Zf.made x 9 (Zcz L)).read,hw];simp[Zcz,hjl]
 generalize x.alloc (.cells (Zcz L) 9)=y at *;generalize wd L ((j:Int)+1)=t at *;have l1:(1:Int)≤(j:Int)+1:=by omega
 have l2:(j:Int)+1≤(L.length:Int):=by omega
 have l3:((j:Int)+1 - 1).toNat=j:=by omega
 have l4:(j:Int)<(L.length:Int):=by omega
 clear hw h1 h2;go_enter Tryz.func87,Tryz.ntmps87;go_wp2
 go_ret;exact⟨rfl,rfl⟩
theorem uSide(k:Int)(w:World)(h1:1≤k)(h2:k≤3):Calls Tryz.prog 78 #[.int .i64 k] w fun e w'=>e=.returned (.string (wd Zp k))∧Below w.heap.size w w':=by
 have B1:=Hh (Zi w (.cells (Zcz Zp) 9));go_enter Tryz.func78,Tryz.ntmps78;go_wp2_with(go_at_call 87;refine(uWordL w k _ 3 3 Zp rfl rfl h1 h2 (by decide)).mono ?_;rintro e w1 ⟨rfl,rfl⟩)
 go_ret;exact⟨rfl,B1.out⟩
theorem uOp(k:Int)(w:World)(h1:1≤k)(h2:k≤6):Calls Tryz.prog 136 #[.int .i64 k] w fun e w'=>e=.returned (.string (wd wOp k))∧Below w.heap.size w w':=by
 have B1:=Hh (Zi w (.cells (Zcz wOp) 9));go_enter Tryz.func136,Tryz.ntmps136;go_wp2_with(go_at_call 87;refine(uWordL w k _ 6 6 wOp rfl rfl h1 h2 (by decide)).mono ?_;rintro e w1 ⟨rfl,rfl⟩)
 go_ret;exact⟨rfl,B1.out⟩
def qN(s:ByteArray):ByteArray:=⟨#[34]⟩++s++⟨#[34]⟩
theorem Zkk(s:ByteArray):(qN s).size=s.size+2:=by
 unfold qN;rw[ByteArray.size_append,ByteArray.size_append];have e:(⟨#[34]⟩:ByteArray).size=1:=rfl;rw[e];omega
theorem uName(s:ByteArray)(w:World)(hs:s.size≤10000000000):Calls Tryz.prog 57 #[.string s] w fun e w'=>e=.returned (.string (qN s))∧w=w':=by
 go_enter Tryz.func57,Tryz.ntmps57;go_wp2
 go_ret;exact⟨rfl,rfl⟩
structure PrR(B:Nat)(w:World)(b:Nat)(v:Value)(st:List Int×Bool)(g1:Nat)(t1:TypeId)(xv:List Value)(a' v':Value)(x:World):Prop where
 bd:Zal 121 [.bool st.2] B x b a' v' st.1
 step:Vs b v w v' x
 box:Zf x g1 t1 xv.toArray
 ne:g1≠b
 far:v'.ownBlock≠some g1
theorem PrR.next{B:Nat}{w x y:World}{b:Nat}{v:Value}{st:List Int×Bool}{g1:Nat}{t1:TypeId}{xv:List Value}{a' v':Value}(h:PrR B w b v st g1 t1 xv a' v' x)(hb:Below x.heap.size x y):PrR B w b v st g1 t1 xv a' v' y:=
 ⟨h.bd.below hb,h.step.trans (Vs.of_below hb),h.box.below hb h.box.inside,h.ne,h.far⟩
theorem PrR.write{B:Nat}{w x y:World}{b:Nat}{v:Value}{st st2:List Int×Bool}{g1:Nat}{t1:TypeId}{xv:List Value}{a' v' a2 v2:Value}(h:PrR B w b v st g1 t1 xv a' v' x)(hb:Zal 121 [.bool st2.2] B y b a2 v2 st2.1)(hs:Vs b v' x v2 y):PrR B w b v st2 g1 t1 xv a2 v2 y:=
 ⟨hb,h.step.trans hs,hs.keeps.whole h.box (fun c=>c.elim h.ne h.far),h.ne,fun c=>by
   rcases hs.fresh _ c with e | e
   ·exact h.far e
   ·have:=h.box.inside;omega⟩
theorem PrR.start{B:Nat}{w:World}{b:Nat}{a v:Value}{st:List Int×Bool}(h:Zal 121 [.bool st.2] B w b a v st.1)(t1:TypeId)(xv:List Value):PrR B w b v st w.heap.size t1 xv a v (w.alloc (.cells xv.toArray t1)):=
 ⟨h.below (Zi w _),Vs.of_below (Zi w _),Zf.made _ _ _,by have:=h.whole.inside;omega,fun c=>by have:=(h.row.lt _ c).2;omega⟩
def kFl(f:Fl):List ByteArray:=
 if f.kind=1∨f.kind=2 then [wd Yh f.kind,wd wOp f.op,Wu f.n]else if f.kind=3 then [wd Yh 3,qN f.name]else [wd Yh 4,wd Vh (f.kind - 3)]
def Zic(B:Nat)(w:World)(b:Nat)(v:Value)(st:List Int×Bool)(e:Ending)(w':World):Prop:=
 e=.returned (.tuple #[])∧∃ a' v',Zal 121 [.bool st.2] B w' b a' v' st.1∧Vs b v w v' w'
theorem fl_num1(B:Nat)(w:World)(b:Nat)(a v:Value)(st:List Int×Bool)(o n:Int)(nm:ByteArray)(h:Zal 121 [.bool st.2] B w b a v st.1)(hB:B≤w.heap.size)(hl:st.1.length+Wc [wd Yh 1,wd wOp o,Wu n]≤10000000000)(ho1:1≤o)(ho2:o≤6)(hn1 : -99≤n)(hn2:n≤99) :
  Calls Tryz.prog 100 #[.pointer (some ⟨b,0,none⟩),.agg #[.int .i64 1,.int .i64 o,.int .i64 n,.string nm]] w (Zic B w b v (Yq st [wd Yh 1,wd wOp o,Wu n])):=by
 have R0:=Hh (PrR.start h 174 [.int .i64 1,.int .i64 o,.int .i64 n,.string nm]);have HL:=Hh hl;have hw:wd Yh 1=⟨#[99,111,115,116]⟩:=by decide +kernel
 have HW:=Hh hw;clear h hl hw;go_enter Tryz.func100,Tryz.ntmps100;go_wp2_with fail
 have R1:=Hh (R0.out.next (y:=(w.alloc (.cells #[.int .i64 1,.int .i64 o,.int .i64 n,.string nm] 174)).drew) ⟨rfl,rfl,rfl,Nat.le_refl _,fun _ _=>rfl⟩);go_region_with(first
 |(go_at_call 136;refine(uOp o _ ho1 ho2).mono ?_;rintro e w5 ⟨rfl,b5⟩
   have R5:=Hh (R1.out.next b5);have i2:w5.cell? ⟨w.heap.size,2,none⟩=some (.int .i64 n):=by rw[R5.out.box.read];rfl
   clear b5)
 |(go_at_call 58;refine(dPut_any n (by omega) (by omega) _).mono ?_;rintro e w6 ⟨rfl,b6⟩
   have R6:=Hh (R5.out.next b6);clear b6)
 |(go_at_call 56;refine(Zjk B w6 b a v st [⟨#[99,111,115,116]⟩,wd wOp o,Wu n] w6.heap.size 3 3 R6.out.bd (Nat.le_trans hB R6.out.step.keeps.size) (by have:=HL.out;rw[HW.out]at this;exact this) (by simp) rfl rfl).mono ?_;rintro e w7 ⟨rfl,a7,v7,h7,s7⟩
   have H7:=Hh h7;have S7:=Hh (R6.out.step.trans s7);clear h7 s7))
 all_goals
  go_wp2
  go_end0
  rw[HW.out];exact⟨rfl,a7,v7,H7.out,S7.out⟩
theorem fl_num2(B:Nat)(w:World)(b:Nat)(a v:Value)(st:List Int×Bool)(o n:Int)(nm:ByteArray)(h:Zal 121 [.bool st.2] B w b a v st.1)(hB:B≤w.heap.size)(hl:st.1.length+Wc [wd Yh 2,wd wOp o,Wu n]≤10000000000)(ho1:1≤o)(ho2:o≤6)(hn1 : -99≤n)(hn2:n≤99) :
  Calls Tryz.prog 100 #[.pointer (some ⟨b,0,none⟩),.agg #[.int .i64 2,.int .i64 o,.int .i64 n,.string nm]] w (Zic B w b v (Yq st [wd Yh 2,wd wOp o,Wu n])):=by
 have R0:=Hh (PrR.start h 174 [.int .i64 2,.int .i64 o,.int .i64 n,.string nm]);have HL:=Hh hl;have hw:wd Yh 2=⟨#[112,111,119,101,114]⟩:=by decide +kernel
 have HW:=Hh hw;clear h hl hw;go_enter Tryz.func100,Tryz.ntmps100;go_wp2_with fail
 have R1:=Hh (R0.out.next (y:=(w.alloc (.cells #[.int .i64 2,.int .i64 o,.int .i64 n,.string nm] 174)).drew) ⟨rfl,rfl,rfl,Nat.le_refl _,fun _ _=>rfl⟩);go_region_with(first
 |(go_at_call 136;refine(uOp o _ ho1 ho2).mono ?_;rintro e w5 ⟨rfl,b5⟩
   have R5:=Hh (R1.out.next b5);have i2:w5.cell? ⟨w.heap.size,2,none⟩=some (.int .i64 n):=by rw[R5.out.box.read];rfl
   clear b5)
 |(go_at_call 58;refine(dPut_any n (by omega) (by omega) _).mono ?_;rintro e w6 ⟨rfl,b6⟩
   have R6:=Hh (R5.out.next b6);clear b6)
 |(go_at_call 56;refine(Zjk B w6 b a v st [⟨#[112,111,119,101,114]⟩,wd wOp o,Wu n] w6.heap.size 3 3 R6.out.bd (Nat.le_trans hB R6.out.step.keeps.size) (by have:=HL.out;rw[HW.out]at this;exact this) (by simp) rfl rfl).mono ?_;rintro e w7 ⟨rfl,a7,v7,h7,s7⟩
   have H7:=Hh h7;have S7:=Hh (R6.out.step.trans s7);clear h7 s7))
 all_goals
  go_wp2
  go_end0
  rw[HW.out];exact⟨rfl,a7,v7,H7.out,S7.out⟩
theorem fl_named(B:Nat)(w:World)(b:Nat)(a v:Value)(st:List Int×Bool)(o n:Int)(nm:ByteArray)(h:Zal 121 [.bool st.2] B w b a v st.1)(hB:B≤w.heap.size)(hl:st.1.length+Wc [wd Yh 3,qN nm]≤10000000000) :
  Calls Tryz.prog 100 #[.pointer (some ⟨b,0,none⟩),.agg #[.int .i64 3,.int .i64 o,.int .i64 n,.string nm]] w (Zic B w b v (Yq st [wd Yh 3,qN nm])):=by
 have R0:=Hh (PrR.start h 174 [.int .i64 3,.int .i64 o,.int .i64 n,.string nm]);have HL:=Hh hl;have hw:[wd Yh 3,qN nm]=[⟨#[110,97,109,101,100]⟩,qN nm]:=by rw[show wd Yh 3=⟨#[110,97,109,101,100]⟩ by decide +kernel]
 have HW:=Hh hw;have HNM:Hid (nm.size≤10000000000):=Hh (by have h2:=hl;simp[Wc,Zkk]at h2;omega);clear h hl hw;go_enter Tryz.func100,Tryz.ntmps100;go_wp2_with(first
 |(go_at_call 57;refine(uName nm _ HNM.out).mono ?_;rintro e w5 ⟨rfl,rfl⟩)
 |(go_at_call 56;refine(Zjk B (w.alloc (.cells #[.int .i64 3,.int .i64 o,.int .i64 n,.string nm] 174)) b a v st [⟨#[110,97,109,101,100]⟩,qN nm] (w.heap.size+1) 2 2 R0.out.bd (Nat.le_trans hB R0.out.step.keeps.size) (by have:=HL.out;rw[HW.out]at this;exact this) (by simp) (by simp) rfl).mono ?_;rintro e w7 ⟨rfl,a7,v7,h7,s7⟩
   have H7:=Hh h7;have S7:=Hh (R0.out.step.trans s7);clear h7 s7))
 go_end0
 rw[HW.out];exact⟨rfl,a7,v7,H7.out,S7.out⟩
theorem fl_me(B:Nat)(w:World)(b:Nat)(a v:Value)(st:List Int×Bool)(o n:Int)(nm:ByteArray)(h:Zal 121 [.bool st.2] B w b a v st.1)(hB:B≤w.heap.size)(hl:st.1.length+Wc [wd Yh 4,wd Vh 1]≤10000000000) :
  Calls Tryz.prog 100 #[.pointer (some ⟨b,0,none⟩),.agg #[.int .i64 4,.int .i64 o,.int .i64 n,.string nm]] w (Zic B w b v (Yq st [wd Yh 4,wd Vh 1])):=by
 have R0:=Hh (PrR.start h 174 [.int .i64 4,.int .i64 o,.int .i64 n,.string nm]);have HL:=Hh hl;have hw:[wd Yh 4,wd Vh 1]=[⟨#[110,111,116]⟩,⟨#[109,101]⟩]:=by rw[show wd Yh 4=⟨#[110,111,116]⟩ by decide +kernel,show wd Vh 1=⟨#[109,101]⟩ by decide +kernel]
 have HW:=Hh hw;clear h hl hw;go_enter Tryz.func100,Tryz.ntmps100;go_wp2_with(first
 |(go_at_call 57;refine(uName nm _ HNM.out).mono ?_;rintro e w5 ⟨rfl,rfl⟩)
 |(go_at_call 56;refine(Zjk B (w.alloc (.cells #[.int .i64 4,.int .i64 o,.int .i64 n,.string nm] 174)) b a v st [⟨#[110,111,116]⟩,⟨#[109,101]⟩] (w.heap.size+1) 2 2 R0.out.bd (Nat.le_trans hB R0.out.step.keeps.size) (by have:=HL.out;rw[HW.out]at this;exact this) (by simp) (by simp) rfl).mono ?_;rintro e w7 ⟨rfl,a7,v7,h7,s7⟩
   have H7:=Hh h7;have S7:=Hh (R0.out.step.trans s7);clear h7 s7))
 go_end0
 rw[HW.out];exact⟨rfl,a7,v7,H7.out,S7.out⟩
theorem fl_it(B:Nat)(w:World)(b:Nat)(a v:Value)(st:List Int×Bool)(o n:Int)(nm:ByteArray)(h:Zal 121 [.bool st.2] B w b a v st.1)(hB:B≤w.heap.size)(hl:st.1.length+Wc [wd Yh 4,wd Vh 2]≤10000000000) :
  Calls Tryz.prog 100 #[.pointer (some ⟨b,0,none⟩),.agg #[.int .i64 5,.int .i64 o,.int .i64 n,.string nm]] w (Zic B w b v (Yq st [wd Yh 4,wd Vh 2])):=by
 have R0:=Hh (PrR.start h 174 [.int .i64 5,.int .i64 o,.int .i64 n,.string nm]);have HL:=Hh hl;have hw:[wd Yh 4,wd Vh 2]=[⟨#[110,111,116]⟩,⟨#[105,116]⟩]:=by rw[show wd Yh 4=⟨#[110,111,116]⟩ by decide +kernel,show wd Vh 2=⟨#[105,116]⟩ by decide +kernel]
 have HW:=Hh hw;clear h hl hw;go_enter Tryz.func100,Tryz.ntmps100;go_wp2_with(first
 |(go_at_call 57;refine(uName nm _ HNM.out).mono ?_;rintro e w5 ⟨rfl,rfl⟩)
 |(go_at_call 56;refine(Zjk B (w.alloc (.cells #[.int .i64 5,.int .i64 o,.int .i64 n,.string nm] 174)) b a v st [⟨#[110,111,116]⟩,⟨#[105,116]⟩] (w.heap.size+1) 2 2 R0.out.bd (Nat.le_trans hB R0.out.step.keeps.size) (by have:=HL.out;rw[HW.out]at this;exact this) (by simp) (by simp) rfl).mono ?_;rintro e w7 ⟨rfl,a7,v7,h7,s7⟩
   have H7:=Hh h7;have S7:=Hh (R0.out.step.trans s7);clear h7 s7))
 go_end0
 rw[HW.out];exact⟨rfl,a7,v7,H7.out,S7.out⟩
theorem prFilter(B:Nat)(w:World)(b:Nat)(a v:Value)(st:List Int×Bool)(f:Fl)(hv:VFl f)(h:Zal 121 [.bool st.2] B w b a v st.1)(hB:B≤w.heap.size)(hl:st.1.length+Wc (kFl f)≤10000000000) :
  Calls Tryz.prog 100 #[.pointer (some ⟨b,0,none⟩),.agg #[.int .i64 f.kind,.int .i64 f.op,.int .i64 f.n,.string f.name]] w (Zic B w b v (Yq st (kFl f))):=by
 obtain⟨kd,o,n,nm⟩:=f;unfold kFl at hl ⊢;simp only at hl ⊢;rcases hv with⟨hk,ho,hn,_⟩ | ⟨hk,_,_,hm⟩ | ⟨hk,_⟩
 ·simp only at hk ho hn
  rw[if_pos hk]at hl ⊢;rcases hk with rfl | rfl
  ·exact fl_num1 B w b a v st o n nm h hB hl ho.1 ho.2 hn.1 hn.2
  ·exact fl_num2 B w b a v st o n nm h hB hl ho.1 ho.2 hn.1 hn.2
 ·simp only at hk hm
  subst hk;exact fl_named B w b a v st o n nm h hB hl
 ·simp only at hk
  rcases hk with rfl | rfl
  ·exact fl_me B w b a v st o n nm h hB hl
  ·exact fl_it B w b a v st o n nm h hB hl
open Go Go.RowKit Go.Great
abbrev Bk:=Nat×TypeId×List Value
structure Rw where
 v:Value
 e:TypeId
 sz:Nat
 n:Nat
 xs:List Value
def Zha(w:World)(bs:List Bk)(rs:List Rw)(k:Nat):Prop:=w.heap.size≤k∧(∀ b ∈ bs,b.1≠k)∧∀ r ∈ rs,r.v.ownBlock≠some k
structure Env(w:World)(bs:List Bk)(rs:List Rw)(ts:List (Ds×List Value))(x:World):Prop where
 at_:∀ b ∈ bs,Zf x b.1 b.2.1 b.2.2.toArray
 lo:∀ b ∈ bs,w.heap.size≤b.1
 nod:(bs.map (·.1)).Nodup
 row:∀ r ∈ rs,x.ownsRow w.heap.size r.e r.sz r.v r.n r.xs
 apart:∀ r ∈ rs,∀ b ∈ bs,r.v.ownBlock≠some b.1
 rapart:rs.Pairwise fun a b=>∀ k,a.v.ownBlock=some k→b.v.ownBlock≠some k
 deep:∀ t ∈ ts,Zn (Zha w bs rs) x t.1 t.2
 below:Below w.heap.size w x
section
variable {w x y:World} {bs:List Bk} {rs:List Rw} {ts:List (Ds×List Value)}
theorem Env.start(w:World):Env w [] [] [] w:=
 ⟨(fun _ h=>nomatch h),(fun _ h=>nomatch h),List.nodup_nil,(fun _ h=>nomatch h),(fun _ h=>nomatch h),List.Pairwise.nil,(fun _ h=>nomatch h),Below.refl _ _⟩
theorem Env.box(h:Env w bs rs ts x)(t:TypeId)(vs:List Value):Env w (bs++[(x.heap.size,t,vs)]) rs ts (x.alloc (.cells vs.toArray t)):=by
 have hk:Zq (fun _=>False) x (x.alloc (.cells vs.toArray t)):=Zq.of_below (Zi x _);refine⟨fun b hb=>?_,fun b hb=>?_,?_,fun r hr=>hk.owns (h.row r hr) (fun _ _=>id),fun r hr b hb=>?_,h.rapart,fun u hu=>?_,h.below.alloc h.below.size _⟩
 ·rcases List.mem_append.1 hb with hb | hb
  ·exact(h.at_ b hb).alloc _
  ·cases List.mem_singleton.1 hb;exact Zf.made x t vs.toArray
 ·rcases List.mem_append.1 hb with hb | hb
  ·exact h.lo b hb
  ·cases List.mem_singleton.1 hb;exact h.below.size
 ·rw[List.map_append,List.nodup_append]
  refine⟨h.nod,by simp,fun a ha b hb=>?_⟩;obtain⟨c,hc,rfl⟩:=List.mem_map.1 ha;simp at hb;subst hb;have:=(h.at_ c hc).inside;omega
 ·rcases List.mem_append.1 hb with hb | hb
  ·exact h.apart r hr b hb
  ·cases List.mem_singleton.1 hb
   intro c;have:=((h.row r hr).lt _ c).2;exact Nat.lt_irrefl _ this
 ·refine(h.deep u hu).keeps hk fun k hk hn=>⟨id,hn.1,fun b hb=>?_,hn.2.2⟩
  rcases List.mem_append.1 hb with hb | hb
  ·exact hn.2.1 b hb
  ·cases List.mem_singleton.1 hb
   show x.heap.size≠k;omega
theorem Env.call(h:Env w bs rs ts x)(b:Below x.heap.size x y):Env w bs rs ts y:=
 ⟨fun c hc=>(h.at_ c hc).below b (h.at_ c hc).inside,h.lo,h.nod,fun r hr=>(Zq.of_below (S:=fun _=>False) b).owns (h.row r hr) (fun _ _=>id),h.apart,h.rapart,fun t ht=>(h.deep t ht).below b,h.below.trans (b.mono h.below.size)⟩
theorem Env.tree(h:Env w bs rs ts x)(b:Below x.heap.size x y){ds:Ds}{vs:List Value}(d:Zn (fun k=>x.heap.size≤k) y ds vs):Env w bs rs (ts++[(ds,vs)]) y:=by
 have h':=h.call b;refine⟨h'.at_,h'.lo,h'.nod,h'.row,h'.apart,h'.rapart,fun u hu=>?_,h'.below⟩;rcases List.mem_append.1 hu with hu | hu
 ·exact h'.deep u hu
 ·cases List.mem_singleton.1 hu
  refine d.mono fun k hk hn=>⟨?_,fun c hc=>?_,fun r hr c=>?_⟩
  ·have:=h.below.size;omega
  ·have:=(h.at_ c hc).inside;omega
  ·have:=((h.row r hr).lt _ c).2;omega
theorem Env.drew(h:Env w bs rs ts x):Env w bs rs ts x.drew:=h.call ⟨rfl,rfl,rfl,Nat.le_refl _,fun _ _=>rfl⟩
theorem Env.drewN(h:Env w bs rs ts x)(n:Nat):Env w bs rs ts (x.drewN n):=h.call ⟨rfl,rfl,rfl,Nat.le_refl _,fun _ _=>rfl⟩
theorem Env.get(h:Env w bs rs ts x)(i:Nat){g:Nat}{t:TypeId}{vs:List Value}(hi:bs[i]?=some (g,t,vs)):Zf x g t vs.toArray:=
 h.at_ (g,t,vs) (List.mem_of_getElem? hi)
theorem Env.leaf(h:Env w bs rs ts x)(i:Nat){ds:Ds}{vs:List Value}(hi:ts[i]?=some (ds,vs)):Zn (fun k=>w.heap.size≤k) x ds vs:=
 (h.deep (ds,vs) (List.mem_of_getElem? hi)).mono fun k _ hn=>hn.1
theorem Zkp{bs:List Bk}{i g:Nat}{t:TypeId}{old ys:List Value}(hi:bs[i]?=some (g,t,old)):(bs.set i (g,t,ys)).map (·.1)=bs.map (·.1):=by
 apply List.ext_getElem?;intro j;rw[List.getElem?_map,List.getElem?_map,List.getElem?_set];by_cases hj:i=j
 ·subst hj
  have hlt:=(List.getElem?_eq_some_iff.1 hi).1;rw[if_pos rfl,if_pos hlt,hi];rfl
 ·rw[if_neg hj]
theorem free_set{bs:List Bk}{rs:List Rw}{i g:Nat}{t:TypeId}{old ys:List Value}(hi:bs[i]?=some (g,t,old)){k:Nat}(h:Zha w bs rs k):Zha w (bs.set i (g,t,ys)) rs k:=by
 refine⟨h.1,fun b hb=>?_,h.2.2⟩;have:b.1 ∈ (bs.set i (g,t,ys)).map (·.1):=List.mem_map_of_mem hb;rw[Zkp hi]at this;obtain⟨c,hc,e⟩:=List.mem_map.1 this;rw[←e];exact h.2.1 c hc
theorem Env.put(h:Env w bs rs ts x)(i:Nat){g:Nat}{t:TypeId}{old ys:List Value}(hi:bs[i]?=some (g,t,old))(p:Put x y g t ys):Env w (bs.set i (g,t,ys)) rs ts y:=by
 have hm:=Zkp (ys:=ys) hi;have hmem:=List.mem_of_getElem? hi
 have hin:∀ b ∈ bs.set i (g,t,ys),∃ c ∈ bs,c.1=b.1:=fun b hb=>by
  have:b.1 ∈ (bs.set i (g,t,ys)).map (·.1):=List.mem_map_of_mem hb;rw[hm]at this;exact List.mem_map.1 this
 refine⟨fun b hb=>?_,fun b hb=>?_,by rw[hm];exact h.nod,fun r hr=>p.keeps.owns (h.row r hr) (fun k hk e=>?_),fun r hr b hb=>?_,h.rapart,fun u hu=>?_,h.below.trans (p.keeps.below h.below.size fun k e=>by rw[e];exact h.lo _ hmem)⟩
 ·obtain⟨j,hj,hb'⟩:=List.getElem_of_mem hb
  rw[List.getElem_set]at hb';rw[List.length_set]at hj;by_cases e:i=j
  ·rw[if_pos e]at hb'
   rw[←hb'];exact p.whole
  ·rw[if_neg e]at hb'
   rw[←hb'];refine p.keeps.whole (h.at_ _ (List.getElem_mem hj)) fun c=>e ?_
   obtain⟨hlt,hge⟩:=List.getElem?_eq_some_iff.1 hi;have h1:(bs.map (·.1))[i]'(by simpa using hlt)=(bs.map (·.1))[j]'(by simpa using hj):=by simp[hge,c]
   have hp:=List.pairwise_iff_getElem.1 h.nod;rcases Nat.lt_trichotomy i j with q | q | q
   ·exact absurd h1 (hp i j _ _ q)
   ·exact q
   ·exact absurd h1.symm (hp j i _ _ q)
 ·obtain⟨c,hc,e⟩:=hin b hb
  rw[←e];exact h.lo c hc
 ·exact h.apart r hr _ hmem (by rw[hk,e])
 ·obtain⟨c,hc,e⟩:=hin b hb
  rw[←e];exact h.apart r hr c hc
 ·exact(h.deep u hu).keeps p.keeps fun k _ hn=>⟨fun e=>hn.2.1 _ hmem e.symm,free_set hi hn⟩
theorem Env.push{v':Value}{e:TypeId}{sz n:Nat}{xs news:List Value}{v:Value}(h:Env w bs [⟨v,e,sz,n,xs⟩] ts x)(ho:y.ownsRow w.heap.size e sz v' (n+1) (xs++news))(hg:x.grownBy y v.ownBlock)
  (hat:v'.ownBlock=v.ownBlock∨v'.ownBlock=some x.heap.size):Env w bs [⟨v',e,sz,n+1,xs++news⟩] ts y:=by
 have hk:Zq (fun k=>v.ownBlock=some k) x y:=Zq.grown (Zq.refl _ _) hg fun k hk=>hk
 have hr:=h.row _ (List.mem_singleton.2 rfl);have ha:=h.apart _ (List.mem_singleton.2 rfl);refine⟨fun b hb=>hk.whole (h.at_ b hb) (ha b hb),h.lo,h.nod,fun r hr=>?_,fun r hr b hb=>?_,List.pairwise_singleton _ _,fun u hu=>?_,h.below.trans (hk.below h.below.size fun k e=>(hr.lt k e).1)⟩
 ·cases List.mem_singleton.1 hr;exact ho
 ·cases List.mem_singleton.1 hr
  rcases hat with e | e
  ·show v'.ownBlock≠_
   rw[e];exact ha b hb
  ·show v'.ownBlock≠_
   rw[e];intro c;have:=(h.at_ b hb).inside;injection c with c;omega
 ·refine(h.deep u hu).keeps hk fun k hk' hn=>⟨hn.2.2 _ (List.mem_singleton.2 rfl),hn.1,hn.2.1,fun r hr=>?_⟩
  cases List.mem_singleton.1 hr
  rcases hat with e | e
  ·show v'.ownBlock≠_
   rw[e];exact hn.2.2 _ (List.mem_singleton.2 rfl)
  ·show v'.ownBlock≠_
   rw[e];intro c;injection c with c;omega
theorem Env.row1(h:Env w bs [] ts x)(e:TypeId)(sz:Nat):Env w bs [⟨.slice none 0 0,e,sz,0,[]⟩] ts x:=
 ⟨h.at_,h.lo,h.nod,(fun r hr=>by cases List.mem_singleton.1 hr;exact⟨by simp,.inl ⟨rfl,rfl⟩⟩),(fun r hr b hb=>by cases List.mem_singleton.1 hr;simp[Value.ownBlock]),List.pairwise_singleton _ _,
   fun u hu=>(h.deep u hu).mono fun k _ hn=>⟨hn.1,hn.2.1,(fun r hr=>by cases List.mem_singleton.1 hr;simp[Value.ownBlock])⟩,h.below⟩
variable {P:Program} {ops:Array Oper} {rest:List Oper} {o:Oper} {a:Act} {Q:Exit→Act→World→Prop}
theorem Zo(h:Env w bs rs ts x)(t:TypeId)(v:Operand)(vs:List Value)(hg:o.guard=none)(ho:o.op=.box t v)(hv:a.eval v=.agg vs.toArray)
  (hn:∀ y g,Env w (bs++[(g,t,vs)]) rs ts y→wpList P ops Q rest (a.put o.dst (.pointer (some ⟨g,0,none⟩))) y):wpList P ops Q (o::rest) a x:=
 wpList_boxTo hg t v ho o.dst rfl x.heap.size rfl vs.toArray (by rw[hv];rfl) (hn _ _ (h.box t vs))
theorem Zc(h:Env w bs rs ts x)(t:TypeId)(vs:List Value)(hg:o.guard=none)(ho:o.op=.alloc t)(hz:(P.info? t).map (fun i=>i.zero.map Value.cells)=some (some vs.toArray))
  (hn:∀ y g,Env w (bs++[(g,t,vs)]) rs ts y→wpList P ops Q rest (a.put o.dst (.pointer (some ⟨g,0,none⟩))) y):wpList P ops Q (o::rest) a x:=by
 obtain⟨i,hi,hzz⟩:=Option.map_eq_some_iff.1 hz;obtain⟨z,hz1,hz2⟩:=Option.map_eq_some_iff.1 hzz;refine wpList_runTo hg o.dst rfl (.pointer (some ⟨x.heap.size,0,none⟩)) (x.alloc (.cells vs.toArray t)) ?_ (hn _ _ (h.box t vs));unfold execOp;rw[ho];simp[Instr.alloc,zeroValue,typeInfo,hi,hz1,newVar,newRow,hz2,Sem.run_bind,Sem.run_pure,run_newObj_alloc]
end
theorem Env.less{w x:World}{bs cs:List Bk}{rs:List Rw}{ts us:List (Ds×List Value)}(h:Env w (bs++cs) rs (ts++us) x):Env w bs rs ts x:=
 ⟨fun b hb=>h.at_ b (List.mem_append_left _ hb),fun b hb=>h.lo b (List.mem_append_left _ hb),by have:=h.nod;rw[List.map_append,List.nodup_append]at this;exact this.1,h.row,fun r hr b hb=>h.apart r hr b (List.mem_append_left _ hb),h.rapart,
   fun u hu=>(h.deep u (List.mem_append_left _ hu)).mono fun k _ hn=>⟨hn.1,fun b hb=>hn.2.1 b (List.mem_append_left _ hb),hn.2.2⟩,h.below⟩
theorem Env.cell{w x:World}{bs:List Bk}{rs:List Rw}{ts:List (Ds×List Value)}(h:Env w bs rs ts x)(i n:Nat){g:Nat}{t:TypeId}{vs:List Value}{v:Value}(hi:bs[i]?=some (g,t,vs))(hv:vs[n]?=some v):x.cell? ⟨g,n,none⟩=some v:=by
 rw[(h.get i hi).read n,List.getElem?_toArray,hv]
theorem Env.perm{w x:World}{bs cs:List Bk}{rs:List Rw}{ts:List (Ds×List Value)}(h:Env w bs rs ts x)(p:bs.Perm cs):Env w cs rs ts x:=
 ⟨fun b hb=>h.at_ b (p.mem_iff.2 hb),fun b hb=>h.lo b (p.mem_iff.2 hb),(p.map _).nodup_iff.1 h.nod,h.row,fun r hr b hb=>h.apart r hr b (p.mem_iff.2 hb),h.rapart,
   fun t ht=>(h.deep t ht).mono fun k _ hn=>⟨hn.1,fun b hb=>hn.2.1 b (p.mem_iff.2 hb),hn.2.2⟩,h.below⟩
theorem Vw.reads{N:Nat→Prop}{w:World}{A:Option Addr}{xs:List Value}(h:Vw N w A xs)(hx:0<xs.length):∃ g,A=some ⟨g,0,none⟩∧g<w.heap.size∧∀ j,j<xs.length→w.cell? ⟨g,j,none⟩=xs[j]?:=by
 rcases h with h | ⟨g,e,_,h2,h3⟩
 ·rw[h]at hx;cases hx
 ·exact⟨g,e,h2,h3⟩
theorem Zn.inRow{N:Nat→Prop}{w:World}{n:Nat}{ds:Ds}{v:Value}(h:Zn N w (.row n ds .nil) [v]):∃ A c xs,v=.slice A n c∧(n≤9223372036854775807∧n≤c)∧Vw N w A xs∧Zn N w ds xs:=by
 obtain⟨A,c,xs,t,e,hn,hw,hd,_⟩:=h;injection e with e1 e2;exact⟨A,c,xs,e1,hn,hw,hd⟩
theorem Zn.inRow1{N:Nat→Prop}{w:World}{n:Nat}{ds:Ds}{vs:List Value}(h:Zn N w (.row n ds .nil) vs):∃ A c xs,vs=[.slice A n c]∧(n≤9223372036854775807∧n≤c)∧Vw N w A xs∧Zn N w ds xs:=by
 obtain⟨A,c,xs,t,e,hn,hw,hd,ht⟩:=h;have ht:t=[]:=ht;exact⟨A,c,xs,by rw[e,ht],hn,hw,hd⟩
def Fl.vals(f:Fl):List Value:=[.int .i64 f.kind,.int .i64 f.op,.int .i64 f.n,.string f.name]
theorem fls_at{N:Nat→Prop}{w:World}:∀{l:List Fl}{xs:List Value},Zn N w (Zdy l) xs→∀(k:Nat)(hk:k<l.length)(j:Nat),j<4→xs[k*4+j]?=(l[k]'hk).vals[j]?:=by
 intro l;induction l with
 |nil=>intro xs _ k hk;cases hk
 |cons f l ih=>
  intro xs h k hk j hj;obtain⟨_,rfl,_,rfl,_,rfl,xs,rfl,h⟩:=h;cases k with
  |zero=>
   rcases(show j=0∨j=1∨j=2∨j=3 by omega)with rfl | rfl | rfl | rfl<;>rfl
  |succ k=>
   have:=ih h k (by simpa using hk) j hj;rw[show(k+1)*4+j=(k*4+j)+4 by omega];simpa using this
theorem fls_len{N:Nat→Prop}{w:World}:∀{l:List Fl}{xs:List Value},Zn N w (Zdy l) xs→xs.length=l.length*4:=by
 intro l;induction l with
 |nil=>intro xs h;cases h;rfl
 |cons f l ih=>
  intro xs h;obtain⟨_,rfl,_,rfl,_,rfl,xs,rfl,h⟩:=h;have:=ih h;simp only[List.length_cons];omega
theorem fil_at{N:Nat→Prop}{w:World}{A:Option Addr}{l:List Fl}{xs:List Value}(hw:Vw N w A xs)(hd:Zn N w (Zdy l) xs){k:Nat}(hk:k<l.length) :
  ∃ x,A=some x∧x.block<w.heap.size∧w.cell? (x.add (k*4))=some (.int .i64 (l[k]'hk).kind)∧w.cell? ⟨(x.add (k*4)).block,(x.add (k*4)).off+1,none⟩=some (.int .i64 (l[k]'hk).op) ∧
   w.cell? ⟨(x.add (k*4)).block,(x.add (k*4)).off+2,none⟩=some (.int .i64 (l[k]'hk).n)∧w.cell? ⟨(x.add (k*4)).block,(x.add (k*4)).off+3,none⟩=some (.string (l[k]'hk).name):=by
 have hl:=fls_len hd;obtain⟨g,hA,hg,hc⟩:=hw.reads (by omega)
 have key:∀ j,j<4→w.cell? (((⟨g,0,none⟩:Addr).add (k*4)).add j)=(l[k]'hk).vals[j]?:=fun j hj=>by
  rw[Addr.add_add,Addr.add_lit,Nat.zero_add,hc _ (by omega),fls_at hd k hk j hj]
 exact⟨⟨g,0,none⟩,hA,hg,key 0 (by omega),key 1 (by omega),key 2 (by omega),key 3 (by omega)⟩
def Acs.at?:Acs→Nat→Option (AH×Acs×Acs)
 |.nil,_=>none
 |.cons h t e _,0=>some (h,t,e)
 |.cons _ _ _ r,n+1=>r.at? n
theorem Acs.at_some:∀(x:Acs)(k:Nat),k<x.len→∃ u,x.at? k=some u
 |.nil,k,h=>absurd h (Nat.not_lt_zero k)
 |.cons h t e r,0,_=>⟨(h,t,e),rfl⟩
 |.cons h t e r,k+1,hk=>Acs.at_some r k (Nat.lt_of_succ_lt_succ hk)
theorem Acs.at_lt:∀(x:Acs)(k:Nat)(u:AH×Acs×Acs),x.at? k=some u→SizeOf.sizeOf u.2.1<SizeOf.sizeOf x∧SizeOf.sizeOf u.2.2<SizeOf.sizeOf x
 |.nil,k,u,h=>by cases h
 |.cons h t e r,0,u,hu=>by cases hu;simp only[Acs.cons.sizeOf_spec];omega
 |.cons h t e r,k+1,u,hu=>by have:=Acs.at_lt r k u hu;simp only[Acs.cons.sizeOf_spec];omega
theorem acs_at{N:Nat→Prop}{w:World}:∀{l:Acs}{xs:List Value},Zn N w l.ds xs→∀(k:Nat)(u:AH×Acs×Acs),l.at? k=some u→∃ pre ys post,xs=pre++ys++post∧pre.length=k*53∧Zn N w (u.1.dsr u.2.1.len u.2.1.ds u.2.2.len u.2.2.ds) ys:=by
 intro l;induction l with
 |nil=>intro xs _ k u hu;cases hu
 |cons f t e r _ _ ih=>
  intro xs h k u hu;obtain⟨a,b,rfl,ha,hb⟩:=Zn.split (x:=f.dsr t.len t.ds e.len e.ds) h;cases k with
  |zero=>cases hu;exact⟨[],a,b,rfl,by simp,ha⟩
  |succ k=>
   obtain⟨pre,ys,post,rfl,hp,hy⟩:=ih hb k u hu;refine⟨a++pre,ys,post,by simp,?_,hy⟩;rw[List.length_append,ha.len,AH.dsr_len,hp];omega
theorem Zhq{w:World}{g sz:Nat}{pre ys post:List Value}(hc:∀ j,j<(pre++ys++post).length→w.cell? ⟨g,j,none⟩=(pre++ys++post)[j]?){k:Nat}(hp:pre.length=k*sz):w.rangeAt g (k*sz) ys:=fun j v hv=>by
 have hj:j<ys.length:=by rcases Nat.lt_or_ge j ys.length with h | h;exact h;rw[List.getElem?_eq_none h]at hv;cases hv
 have:=hc (k*sz+j) (by simp;omega);rw[this,←hp,List.append_assoc,List.getElem?_append_right (by omega),Nat.add_sub_cancel_left,List.getElem?_append_left hj,hv]
theorem act_at{N:Nat→Prop}{w:World}{A:Option Addr}{l:Acs}{xs:List Value}(hw:Vw N w A xs)(hd:Zn N w l.ds xs){k:Nat}{u:AH×Acs×Acs}(hu:l.at? k=some u) :
  ∃ g ys,A=some ⟨g,0,none⟩∧g<w.heap.size∧w.rangeAt g (k*53) ys∧Zn N w (u.1.dsr u.2.1.len u.2.1.ds u.2.2.len u.2.2.ds) ys:=by
 obtain⟨pre,ys,post,rfl,hp,hy⟩:=acs_at hd k u hu;have hl:ys.length=53:=by rw[hy.len,AH.dsr_len]
 obtain⟨g,hA,hg,hc⟩:=hw.reads (by simp;omega);exact⟨g,ys,hA,hg,Zhq hc hp,hy⟩
theorem act_of{N:Nat→Prop}{w:World}{h:AH}{tn en:Nat}{t e:Ds}{ys:List Value}(hd:Zn N w (h.dsr tn t en e) ys) :
  ∃ sel num cl cr thn els,ys=Yi h.kind h.line h.col sel num h.side h.tk h.tl h.how h.name h.cop cl cr thn els∧Zn N w h.sel.ds sel∧Zn N w h.num.ds num∧Zn N w h.cl.ds cl∧Zn N w h.cr.ds cr∧Zn N w (.row tn t .nil) [thn]∧Zn N w (.row en e .nil) [els]:=by
 obtain⟨_,rfl,_,rfl,_,rfl,k1⟩:=hd;obtain⟨sel,_,rfl,h1,k2⟩:=Zn.split (x:=h.sel.ds) k1;obtain⟨num,_,rfl,h2,k3⟩:=Zn.split (x:=h.num.ds) k2;obtain⟨_,rfl,_,rfl,_,rfl,_,rfl,_,rfl,_,rfl,k4⟩:=k3;obtain⟨cl,_,rfl,h3,k5⟩:=Zn.split (x:=h.cl.ds) k4;obtain⟨cr,_,rfl,h4,k6⟩:=Zn.split (x:=h.cr.ds) k5;obtain⟨a,b,rfl,h5,h6⟩:=Zn.split (x:=.row tn t .nil) k6;obtain⟨A,c,xs,rfl,_⟩:=id h5.inRow1;obtain⟨B,d,zs,rfl,_⟩:=id h6.inRow1;exact⟨sel,num,cl,cr,_,_,by simp[Yi],h1,h2,h3,h4,h5,h6⟩
theorem actV_at{k l c sd tk tl how cop:Int}{nm:ByteArray}{sel num cl cr:List Value}{thn els:Value}(e1:sel.length=6)(e2:num.length=12)(e3:cl.length=12)(e4:cr.length=12) :
  (Yi k l c sel num sd tk tl how nm cop cl cr thn els)[0]?=some (.int .i64 k)∧(Yi k l c sel num sd tk tl how nm cop cl cr thn els)[1]?=some (.int .i64 l)∧(Yi k l c sel num sd tk tl how nm cop cl cr thn els)[2]?=some (.int .i64 c) ∧
  (Yi k l c sel num sd tk tl how nm cop cl cr thn els)[21]?=some (.int .i64 sd)∧(Yi k l c sel num sd tk tl how nm cop cl cr thn els)[22]?=some (.int .i64 tk)∧(Yi k l c sel num sd tk tl how nm cop cl cr thn els)[23]?=some (.int .i64 tl) ∧
  (Yi k l c sel num sd tk tl how nm cop cl cr thn els)[24]?=some (.int .i64 how)∧(Yi k l c sel num sd tk tl how nm cop cl cr thn els)[25]?=some (.string nm)∧(Yi k l c sel num sd tk tl how nm cop cl cr thn els)[26]?=some (.int .i64 cop) ∧
  (Yi k l c sel num sd tk tl how nm cop cl cr thn els)[51]?=some thn∧(Yi k l c sel num sd tk tl how nm cop cl cr thn els)[52]?=some els:=by
 simp only[Yi];refine⟨?_,?_,?_,?_,?_,?_,?_,?_,?_,?_,?_⟩<;>simp[List.getElem?_append,e1,e2,e3,e4]
theorem Zcu:(Tryz.prog.info? 58).map (fun i=>i.zero.map Value.cells)=some (some Vy.toArray):=by kernel_rfl
def Zls(l:List Fl):List ByteArray:=l.flatMap kFl
def Zgq(s:Se):List ByteArray:=
 if s.kind=1∨s.kind=2 then [wd Ym s.kind]else [⟨#[40]⟩]++[wd Zp s.side,wd Ye s.wh]++(if s.wh=3 then [Wu s.lane]else [])++Zls s.fs++[wd Vz s.pick,⟨#[41]⟩]
theorem sel_one(B:Nat)(w:World)(b:Nat)(a v:Value)(st:List Int×Bool)(k sd wh ln pk:Int)(fv:Value)(hk:k=1∨k=2)(h:Zal 121 [.bool st.2] B w b a v st.1)(hB:B≤w.heap.size)(hl:st.1.length+Wc [wd Ym k]≤10000000000) :
  Calls Tryz.prog 77 #[.pointer (some ⟨b,0,none⟩),.agg #[.int .i64 k,.int .i64 sd,.int .i64 wh,.int .i64 ln,fv,.int .i64 pk]] w (Zic B w b v (Yq st [wd Ym k])):=by
 have R0:=Hh (PrR.start h 49 [.int .i64 k,.int .i64 sd,.int .i64 wh,.int .i64 ln,fv,.int .i64 pk]);have R1:=Hh (R0.out.next (Zi _ (.cells (Zcz Ym) 9)));have HL:=Hh hl;have hk3:(k != 3)=true:=by rcases hk with rfl | rfl<;>decide
 have k1:1≤k:=by omega
 have k2:k≤3:=by omega
 clear h hl hk;go_enter Tryz.func77,Tryz.ntmps77;go_wp2_with(first
 |(go_at_call 87;refine(uWordL (w.alloc (.cells #[.int .i64 k,.int .i64 sd,.int .i64 wh,.int .i64 ln,fv,.int .i64 pk] 49)) k (w.heap.size+1) 3 3 Ym (by simp) rfl k1 k2 (by decide)).mono ?_;rintro e w1 ⟨rfl,rfl⟩)
 |(go_at_call 56;refine(Zjk B ((w.alloc (.cells #[.int .i64 k,.int .i64 sd,.int .i64 wh,.int .i64 ln,fv,.int .i64 pk] 49)).alloc (.cells (Zcz Ym) 9)) b a v st [wd Ym k] (w.heap.size+1+1) 1 1 R1.out.bd (Nat.le_trans hB R1.out.step.keeps.size) HL.out (by simp) (by simp) rfl).mono ?_;rintro e w7 ⟨rfl,a7,v7,h7,s7⟩
   have H7:=Hh (R1.out.write h7 s7);have q0:w7.cell? ⟨w.heap.size,0,none⟩=some (.int .i64 k):=by rw[H7.out.box.read];rfl
   clear h7 s7))
 refine bodyPost_ret (v:=.tuple #[]) (by simp[results,Tryz.results77,go_sem]) rfl ?_;exact⟨rfl,a7,v7,H7.out.bd,H7.out.step⟩
open Go.Great Go.ChangeShapes Go.WideShapes Go.ChangeAt Go.RowKit
structure PE(w0:World)(b:Nat)(st:List Int×Bool)(own:List Bk)(x:World):Prop where
 ex:∃ a v:Value,Env w0 ((b,121,[a,v,.bool st.2])::own) [⟨v,5,1,st.1.length,st.1.map (Value.int .u8)⟩] [] x∧(a=.pointer none∨a=.pointer (some ⟨b,0,none⟩))
def Zia(w0:World)(b:Nat)(st:List Int×Bool)(own:List Bk)(e:Ending)(y:World):Prop:=e=.returned (.tuple #[])∧PE w0 b st own y
section
variable {w0 x y:World} {b:Nat} {st:List Int×Bool} {own:List Bk}
theorem PE.perm{own2:List Bk}(h:PE w0 b st own x)(p:own.Perm own2):PE w0 b st own2 x:=by
 obtain⟨a,v,h,u⟩:=h;exact⟨a,v,h.perm (p.cons _),u⟩
theorem PE.box(h:PE w0 b st own x)(t:TypeId)(vs:List Value):PE w0 b st ((x.heap.size,t,vs)::own) (x.alloc (.cells vs.toArray t)):=by
 obtain⟨a,v,h,u⟩:=h;refine⟨a,v,(h.box t vs).perm ?_,u⟩;exact(List.perm_append_singleton _ own).cons _
theorem PE.call(h:PE w0 b st own x)(hb:Below x.heap.size x y):PE w0 b st own y:=by
 obtain⟨a,v,h,u⟩:=h;exact⟨a,v,h.call hb,u⟩
theorem PE.drew(h:PE w0 b st own x):PE w0 b st own x.drew:=h.call ⟨rfl,rfl,rfl,Nat.le_refl _,fun _ _=>rfl⟩
theorem PE.drewN(h:PE w0 b st own x)(n:Nat):PE w0 b st own (x.drewN n):=h.call ⟨rfl,rfl,rfl,Nat.le_refl _,fun _ _=>rfl⟩
theorem PE.get(h:PE w0 b st own x)(i:Nat){g:Nat}{t:TypeId}{vs:List Value}(hi:own[i]?=some (g,t,vs)):Zf x g t vs.toArray:=by
 obtain⟨a,v,h,u⟩:=h;exact h.get (i+1) (by simpa using hi)
theorem PE.put(h:PE w0 b st own x)(i:Nat){g:Nat}{t:TypeId}{old ys:List Value}(hi:own[i]?=some (g,t,old))(p:Put x y g t ys):PE w0 b st (own.set i (g,t,ys)) y:=by
 obtain⟨a,v,h,u⟩:=h;exact⟨a,v,h.put (i+1) (by simpa using hi) p,u⟩
theorem PE.tail{p:Bk}(h:PE w0 b st (p::own) x):PE w0 b st own x:=by
 obtain⟨a,v,h,u⟩:=h;have h2:=h.perm (cs:=((b,121,[a,v,.bool st.2])::own)++[p]) ((List.perm_append_singleton p own).symm.cons _);exact⟨a,v,Env.less (ts:=[]) (us:=[]) h2,u⟩
theorem PE.below(h:PE w0 b st own x):Below w0.heap.size w0 x:=by
 obtain⟨a,v,h,u⟩:=h;exact h.below
theorem PE.inside(h:PE w0 b st own x)(i:Nat){g:Nat}{t:TypeId}{vs:List Value}(hi:own[i]?=some (g,t,vs)):g<x.heap.size:=(h.get i hi).inside
theorem PE.print{P:Program}{f:Nat}{args:Array Value}{st2:List Int×Bool}{x2:World}(h:PE w0 b st own x)
  (hc:∀ a v,Zal 121 [.bool st.2] w0.heap.size x b a v st.1→w0.heap.size≤x.heap.size→Calls P f args x2 (Zic w0.heap.size x b v st2)):Calls P f args x2 (Zia w0 b st2 own):=by
 obtain⟨a,v,h,u⟩:=h;have h0:(b,121,[a,v,.bool st.2]) ∈ (b,121,[a,v,Value.bool st.2])::own:=by simp
 have hr:=h.row _ (List.mem_singleton.2 rfl);have ha:=h.apart _ (List.mem_singleton.2 rfl);have hb:Zal 121 [.bool st.2] w0.heap.size x b a v st.1:=⟨h.at_ _ h0,hr,h.lo _ h0,ha _ h0,u⟩
 refine(hc a v hb h.below.size).mono ?_;rintro e y ⟨rfl,a2,v2,h2,s2⟩;have hn:=List.nodup_cons.1 h.nod;refine⟨rfl,a2,v2,⟨fun c hc=>?_,fun c hc=>?_,h.nod,fun r hr=>?_,fun r hr c hc=>?_,List.pairwise_singleton _ _,(fun _ h=>nomatch h),?_⟩,h2.used⟩
 ·rcases List.mem_cons.1 hc with rfl | hc
  ·exact h2.whole
  ·refine s2.keeps.whole (h.at_ c (List.mem_cons_of_mem _ hc)) fun q=>?_
   rcases q with q | q
   ·exact hn.1 (List.mem_map.2 ⟨c,hc,q⟩)
   ·exact ha c (List.mem_cons_of_mem _ hc) q
 ·rcases List.mem_cons.1 hc with rfl | hc
  ·have:=h.lo _ h0;exact this
  ·exact h.lo c (List.mem_cons_of_mem _ hc)
 ·cases List.mem_singleton.1 hr;exact h2.row
 ·cases List.mem_singleton.1 hr
  rcases List.mem_cons.1 hc with rfl | hc
  ·exact h2.far
  ·intro q
   rcases s2.fresh _ q with q | q
   ·exact ha c (List.mem_cons_of_mem _ hc) q
   ·have:=(h.at_ c (List.mem_cons_of_mem _ hc)).inside;omega
 ·exact h.below.trans (s2.keeps.below h.below.size fun k q=>by
   rcases q with rfl | q
   ·exact h.lo _ h0
   ·exact(hr.lt k q).1)
variable {P:Program} {ops:Array Oper} {rest:List Oper} {o:Oper} {a:Act} {Q:Exit→Act→World→Prop}
theorem Wm(h:PE w0 b st own x)(t:TypeId)(v:Operand)(vs:List Value)(hg:o.guard=none)(ho:o.op=.box t v)(hv:a.eval v=.agg vs.toArray)
  (hn:∀ y g,PE w0 b st ((g,t,vs)::own) y→wpList P ops Q rest (a.put o.dst (.pointer (some ⟨g,0,none⟩))) y):wpList P ops Q (o::rest) a x:=
 wpList_boxTo hg t v ho o.dst rfl x.heap.size rfl vs.toArray (by rw[hv];rfl) (hn _ _ (h.box t vs))
theorem Zbr(h:PE w0 b st own x)(t:TypeId)(vs:List Value)(hg:o.guard=none)(ho:o.op=.alloc t)(hz:(P.info? t).map (fun i=>i.zero.map Value.cells)=some (some vs.toArray))
  (hn:∀ y g,PE w0 b st ((g,t,vs)::own) y→wpList P ops Q rest (a.put o.dst (.pointer (some ⟨g,0,none⟩))) y):wpList P ops Q (o::rest) a x:=by
 obtain⟨i,hi,hzz⟩:=Option.map_eq_some_iff.1 hz;obtain⟨z,hz1,hz2⟩:=Option.map_eq_some_iff.1 hzz;refine wpList_runTo hg o.dst rfl (.pointer (some ⟨x.heap.size,0,none⟩)) (x.alloc (.cells vs.toArray t)) ?_ (hn _ _ (h.box t vs));unfold execOp;rw[ho];simp[Instr.alloc,zeroValue,typeInfo,hi,hz1,newVar,newRow,hz2,Sem.run_bind,Sem.run_pure,run_newObj_alloc]
end
def Vg(st:List Int×Bool)(k:List ByteArray):Prop:=st.1.length+Wc k≤10000000000
theorem Vg.app{st:List Int×Bool}{k l:List ByteArray}(h:Vg st (k++l)):Vg st k∧Vg (Yq st k) l:=by
 unfold Vg at *;rw[Yk]at h;have:=putsB_len k st;omega
theorem Vg.first{st:List Int×Bool}{k l:List ByteArray}(h:Vg st (k++l)):Vg st k:=h.app.1
theorem Vg.next{st:List Int×Bool}{k l:List ByteArray}(h:Vg st (k++l)):Vg (Yq st k) l:=h.app.2
section
variable {w0 x:World} {b:Nat} {st:List Int×Bool} {own:List Bk}
theorem pPut(h:PE w0 b st own x)(ts:List ByteArray)(q n c:Nat)(hr:Vg st ts)(ht:ts.length≤1000)(hq:q=x.heap.size)(hn:n=ts.length) :
  Calls Tryz.prog 56 #[.pointer (some ⟨b,0,none⟩),.slice (some ⟨q,0,none⟩) n c] (x.alloc (.cells (Zcz ts) 9)) (Zia w0 b (Yq st ts) own):=
 h.print fun a v hb hB=>Zjk _ x b a v st ts q n c hb hB hr ht hq hn
theorem pFilter(h:PE w0 b st own x)(f:Fl)(hv:VFl f)(hr:Vg st (kFl f)) :
  Calls Tryz.prog 100 #[.pointer (some ⟨b,0,none⟩),.agg #[.int .i64 f.kind,.int .i64 f.op,.int .i64 f.n,.string f.name]] x (Zia w0 b (Yq st (kFl f)) own):=
 h.print fun a v hb hB=>prFilter _ x b a v st f hv hb hB hr
end
section
variable {w0 x:World} {b:Nat} {st:List Int×Bool} {own:List Bk}
theorem Zlb(h:PE w0 b st own x)(k:Int)(q n c:Nat)(L:List ByteArray)(hq:q=x.heap.size)(hn:n=L.length)(h1:1≤k)(h2:k≤L.length)(h3:L.length≤1000) :
  Calls Tryz.prog 87 #[.int .i64 k,.slice (some ⟨q,0,none⟩) n c] (x.alloc (.cells (Zcz L) 9)) fun e y=>e=.returned (.string (wd L k))∧PE w0 b st own y:=
 (uWordL x k q n c L hq hn h1 h2 h3).mono fun e y ⟨he,hw⟩=>⟨he,hw ▸ h.call (Zi _ _)⟩
theorem vqSide(h:PE w0 b st own x)(k:Int)(h1:1≤k)(h2:k≤3):Calls Tryz.prog 78 #[.int .i64 k] x fun e y=>e=.returned (.string (wd Zp k))∧PE w0 b st own y:=
 (uSide k x h1 h2).mono fun e y ⟨he,hb⟩=>⟨he,h.call hb⟩
theorem vqNum(h:PE w0 b st own x)(n:Int)(h1 : -99≤n)(h2:n≤99):Calls Tryz.prog 58 #[.int .i64 n] x fun e y=>e=.returned (.string (Wu n))∧PE w0 b st own y:=
 (dPut_any n (by omega) (by omega) x).mono fun e y ⟨he,hb⟩=>⟨he,h.call hb⟩
theorem Jk{s2:List Int×Bool}{ts:List ByteArray}(e:s2=Yq st ts)(r:Vg st ts)(ht:ts.length≤1000)(own:List Bk)(x:World)(q n c:Nat)(h:PE w0 b st own x)(hq:q=x.heap.size)(hn:n=ts.length) :
  Calls Tryz.prog 56 #[.pointer (some ⟨b,0,none⟩),.slice (some ⟨q,0,none⟩) n c] (x.alloc (.cells (Zcz ts) 9)) (Zia w0 b s2 own):=by
 subst e;exact pPut h ts q n c r ht hq hn
end
def Zbq(w0:World)(f:Nat)(arg:Value)(K:List ByteArray):Prop:=∀(b:Nat)(st:List Int×Bool)(own:List Bk)(x:World),PE w0 b st own x→Vg st K →
 Calls Tryz.prog f #[.pointer (some ⟨b,0,none⟩),arg] x (Zia w0 b (Yq st K) own)
theorem Zbq.at_{w0:World}{f:Nat}{arg:Value}{K:List ByteArray}(h:Zbq w0 f arg K){b:Nat}{s1 s2:List Int×Bool}(e:s2=Yq s1 K)(r:Vg s1 K)(own:List Bk)(x:World)(hp:PE w0 b s1 own x) :
  Calls Tryz.prog f #[.pointer (some ⟨b,0,none⟩),arg] x (Zia w0 b s2 own):=by
 subst e;exact h b s1 own x hp r
theorem Zf.nthQ{w:World}{g:Nat}{t:TypeId}{l:List Value}(h:Zf w g t l.toArray)(i:Nat){v:Value}(hv:l[i]?=some v):w.cell? ⟨g,i,none⟩=some v:=by
 rw[h.read,List.getElem?_toArray];exact hv
section
variable {P:Program} {ops:Array Oper} {rest:List Oper} {o:Oper} {a:Act} {w:World} {Q:Exit→Act→World→Prop}
theorem Zab(T:TypeId)(x:Operand)(g n:Nat)(vs:List Value)(hR:w.rangeAt g n vs)
  (hu:(P.underlying T).map TypeDesc.isRow=some true)(hi:(P.info? T).map (·.size)=some vs.length)
  (hgd:o.guard=none)(ho:o.op=.load T x)(hx:a.eval x=.pointer (some ⟨g,n,none⟩))
  (h:wpList P ops Q rest (a.put o.dst (.agg vs.toArray)) w):wpList P ops Q (o::rest) a w:=by
 obtain⟨d,hu,hr⟩:=Option.map_eq_some_iff.1 hu;exact wpList_load_mid hgd T x ho g n hx vs d hR hu hr hi h
end
theorem Um{P:Program}{md:Region.Mode}{ops:Array Oper}{Q:Exit→Act→World→Prop}{S:World→Prop}{i k:Nat}{oi:Oper}{v:Value}{fuel:Nat}{listed:Array Bool}{l:List Value}{d:List Deferred}{w:World}(hi:ops[i]?=some oi)(hd:oi.dst=some k)
  (hs:Region.noSelect ops=true)(hf:Region.free md ops listed i=true)(hr:(Region.ready md ops listed).contains i=true)
  (hQ:∀ c a w,Q (.panic c) (a.put oi.dst v) w→Q (.panic c) a w)(hy:YieldsIf P ops S oi v ⟨l.toArray,d⟩)(hS:S w)
  (h:wpAnyH P md ops Q S fuel (listed.setIfInBounds i true) ⟨(l.set k v).toArray,d⟩ w):wpAnyH P md ops Q S (fuel+1) listed ⟨l.toArray,d⟩ w:=by
 refine wpAnyH_take hi hs hf hr hQ hy hS ?_;rw[hd];simpa[Act.put]using h
theorem qyMove{P:Program}{ops:Array Oper}{S:World→Prop}{o:Oper}{a:Act}{x:Operand}{v:Value}(g:o.guard=none)(ho:o.op=.move x)(e:a.eval x=v):YieldsIf P ops S o v a:=
 .inl ⟨by unfold Region.wanted;rw[g],fun w _=>by unfold execOp;rw[ho];simp[e,Sem.run_pure]⟩
theorem Zki:(Tryz.prog.underlying 174).map TypeDesc.isRow=some true:=by kernel_rfl
theorem Zei:(Tryz.prog.info? 174).map (·.size)=some 4:=by kernel_rfl
theorem qrow_to:(Tryz.prog.underlying 51).map TypeDesc.isRow=some true:=by kernel_rfl
theorem qsize_to:(Tryz.prog.info? 51).map (·.size)=some 2:=by kernel_rfl
theorem qrow_sel:(Tryz.prog.underlying 49).map TypeDesc.isRow=some true:=by kernel_rfl
theorem qsize_sel:(Tryz.prog.info? 49).map (·.size)=some 6:=by kernel_rfl
theorem Ua:(Tryz.prog.underlying 54).map TypeDesc.isRow=some true:=by kernel_rfl
theorem Wq:(Tryz.prog.info? 54).map (·.size)=some 12:=by kernel_rfl
theorem qz_fil:(Tryz.prog.info? 174).map (fun i=>i.zero.map Value.cells)=some (some ([.int .i64 0,.int .i64 0,.int .i64 0,.string ⟨#[]⟩]:List Value).toArray):=by kernel_rfl
theorem PE.ranges{w0 x:World}{b:Nat}{st:List Int×Bool}{own:List Bk}(h:PE w0 b st own x){g n:Nat}{ys:List Value}(hr:w0.rangeAt g n ys)(hg:g<w0.heap.size):x.rangeAt g n ys:=
 fun j v hv=>(World.cell?_of_block (a:=⟨g,n+j,none⟩) (h.below.block g hg)).trans (hr j v hv)
def kTo(k l:Int):List ByteArray:=[wd wTo k]++(if k=4 then [Wu l]else [])
theorem pTo_4(w0:World)(l:Int)(hl:0≤l∧l≤99):Zbq w0 79 (.agg #[.int .i64 4,.int .i64 l]) ([wd wTo 4]++([Wu l])):=by
 intro b st own x h hr;obtain⟨s1,E1⟩:∃ s,s=Yq st ([wd wTo 4]):=⟨_,rfl⟩
 have R1:=Hh (Vg.first hr);replace hr:=Vg.next hr;rw[←E1]at hr;obtain⟨s2,E2⟩:∃ s,s=Yq s1 ([Wu l]):=⟨_,rfl⟩
 have R2:=Hh hr;clear hr;have EK:Yq st (([wd wTo 4])++(([Wu l])))=s2:=by simp only[Wh,E1,E2]
 rw[EK];clear EK;have P1:=Hh (fun own x=>Jk (w0:=w0) (b:=b) E1 R1.out (by simp) own x);have P2:=Hh (fun own x=>Jk (w0:=w0) (b:=b) E2 R2.out (by simp) own x);have HE1:=Hh E1;clear E1;have HE2:=Hh E2;clear E2;have T:=Hh h;clear h;go_enter Tryz.func79,Tryz.ntmps79;go_wp2_with(first
 |((with_reducible refine Zd 3 ?_);refine Wm T.out 51 _ ([.int .i64 4,.int .i64 l]) rfl rfl rfl ?_;intro wn g0 tn;have T:=Hh tn;clear tn;have c0_0:wn.cell? ⟨g0,0,none⟩=some (.int .i64 4):=(T.out.get 0 rfl).read 0;have c0_1:wn.cell? ⟨g0,1,none⟩=some (.int .i64 l):=(T.out.get 0 rfl).read 1)
 |(go_at_call 87;refine(Zlb T.out (4) _ 4 4 wTo rfl rfl (by omega) (by show _≤((4:Nat):Int);omega) (by decide)).mono ?_;rintro e wn ⟨rfl,tn⟩;have T:=Hh tn;clear tn;have c0_0:wn.cell? ⟨g0,0,none⟩=some (.int .i64 4):=(T.out.get 0 rfl).read 0;have c0_1:wn.cell? ⟨g0,1,none⟩=some (.int .i64 l):=(T.out.get 0 rfl).read 1)
 |(go_at_call 58;(with_reducible refine(vqNum T.out (l) (by omega) (by omega)).mono ?_);rintro e wn ⟨rfl,tn⟩;have T:=Hh tn;clear tn;have c0_0:wn.cell? ⟨g0,0,none⟩=some (.int .i64 4):=(T.out.get 0 rfl).read 0;have c0_1:wn.cell? ⟨g0,1,none⟩=some (.int .i64 l):=(T.out.get 0 rfl).read 1)
 |(go_at_call 56;refine(P1.out _ _ _ _ _ T.out rfl rfl).mono ?_;rintro e wn ⟨rfl,tn⟩;have T:=Hh tn;clear tn;have c0_0:wn.cell? ⟨g0,0,none⟩=some (.int .i64 4):=(T.out.get 0 rfl).read 0;have c0_1:wn.cell? ⟨g0,1,none⟩=some (.int .i64 l):=(T.out.get 0 rfl).read 1)
 |(go_at_call 56;refine(P2.out _ _ _ _ _ T.out rfl rfl).mono ?_;rintro e wn ⟨rfl,tn⟩;have T:=Hh tn;clear tn;have c0_0:wn.cell? ⟨g0,0,none⟩=some (.int .i64 4):=(T.out.get 0 rfl).read 0;have c0_1:wn.cell? ⟨g0,1,none⟩=some (.int .i64 l):=(T.out.get 0 rfl).read 1))
 go_end0
 exact⟨rfl,T.out.tail⟩
theorem pTo_k(w0:World)(k l:Int)(hk:1≤k∧k≤3):Zbq w0 79 (.agg #[.int .i64 k,.int .i64 l]) ([wd wTo k]):=by
 intro b st own x h hr;obtain⟨s1,E1⟩:∃ s,s=Yq st ([wd wTo k]):=⟨_,rfl⟩
 have R1:=Hh hr;clear hr;have EK:Yq st (([wd wTo k]))=s1:=by simp only[Wh,E1]
 rw[EK];clear EK;have P1:=Hh (fun own x=>Jk (w0:=w0) (b:=b) E1 R1.out (by simp) own x);have HE1:=Hh E1;clear E1;have hk4:(k == 4)=false:=by rw[beq_eq_false_iff_ne];omega
 have T:=Hh h;clear h;go_enter Tryz.func79,Tryz.ntmps79;go_wp2_with(first
 |((with_reducible refine Zd 3 ?_);refine Wm T.out 51 _ ([.int .i64 k,.int .i64 l]) rfl rfl rfl ?_;intro wn g0 tn;have T:=Hh tn;clear tn;have c0_0:wn.cell? ⟨g0,0,none⟩=some (.int .i64 k):=(T.out.get 0 rfl).read 0;have c0_1:wn.cell? ⟨g0,1,none⟩=some (.int .i64 l):=(T.out.get 0 rfl).read 1)
 |(go_at_call 87;refine(Zlb T.out (k) _ 4 4 wTo rfl rfl (by omega) (by show _≤((4:Nat):Int);omega) (by decide)).mono ?_;rintro e wn ⟨rfl,tn⟩;have T:=Hh tn;clear tn;have c0_0:wn.cell? ⟨g0,0,none⟩=some (.int .i64 k):=(T.out.get 0 rfl).read 0;have c0_1:wn.cell? ⟨g0,1,none⟩=some (.int .i64 l):=(T.out.get 0 rfl).read 1)
 |(go_at_call 56;refine(P1.out _ _ _ _ _ T.out rfl rfl).mono ?_;rintro e wn ⟨rfl,tn⟩;have T:=Hh tn;clear tn;have c0_0:wn.cell? ⟨g0,0,none⟩=some (.int .i64 k):=(T.out.get 0 rfl).read 0;have c0_1:wn.cell? ⟨g0,1,none⟩=some (.int .i64 l):=(T.out.get 0 rfl).read 1))
 go_end0
 exact⟨rfl,T.out.tail⟩
theorem pTo(w0:World)(k l:Int)(hv:VTo k l):Zbq w0 79 (.agg #[.int .i64 k,.int .i64 l]) (kTo k l):=by
 unfold kTo;rcases hv with⟨hk,_⟩ | ⟨rfl,hl⟩
 ·rw[if_neg (by omega)];exact pTo_k w0 k l hk
 ·rw[if_pos rfl];exact pTo_4 w0 l hl
theorem vqWord0(w:World)(k:Nat)(q n c:Nat)(t:ByteArray)(hk:k<n)(hn:n≤1000)(hq:w.cell? ⟨q,k,none⟩=some (.string t)) :
  Calls Tryz.prog 87 #[.int .i64 ((k:Int)+1),.slice (some ⟨q,0,none⟩) n c] w fun e w'=>e=.returned (.string t)∧w=w':=by
 have l1:(1:Int)≤(k:Int)+1:=by omega
 have l2:(k:Int)+1≤(n:Int):=by omega
 have l3:((k:Int)+1 - 1).toNat=k:=by omega
 have l4:(k:Int)<(n:Int):=by omega
 go_enter Tryz.func87,Tryz.ntmps87;go_wp2
 go_ret;exact⟨rfl,rfl⟩
theorem flat_split{α β:Type}(f:α→List β)(l:List α){m:Nat}(h:m<l.length):l.flatMap f=(l.take m).flatMap f++(f (l[m]'h)++(l.drop (m+1)).flatMap f):=by
 conv=>lhs;rw[←List.take_append_drop m l]
 rw[List.flatMap_append,List.drop_eq_getElem_cons h,List.flatMap_cons]
theorem flat_take{α β:Type}(f:α→List β)(l:List α){m:Nat}(h:m<l.length):(l.take (m+1)).flatMap f=(l.take m).flatMap f++f (l[m]'h):=by
 rw[List.take_succ_eq_append_getElem h,List.flatMap_append];simp
def midS{α:Type}(f:α→List ByteArray)(l:List α)(s:List Int×Bool)(m:Nat):List Int×Bool:=Yq s ((l.take m).flatMap f)
theorem midS_end{α:Type}(f:α→List ByteArray)(l:List α)(s:List Int×Bool):midS f l s l.length=Yq s (l.flatMap f):=by unfold midS;rw[List.take_length]
theorem midS_next{α:Type}(f:α→List ByteArray)(l:List α)(s:List Int×Bool){m:Nat}(h:m<l.length):midS f l s (m+1)=Yq (midS f l s m) (f (l[m]'h)):=by
 unfold midS;rw[flat_take f l h,Wh]
theorem midS_room{α:Type}{f:α→List ByteArray}{l:List α}{s:List Int×Bool}(r:Vg s (l.flatMap f)){m:Nat}(h:m<l.length):Vg (midS f l s m) (f (l[m]'h)):=by
 rw[flat_split f l h]at r;exact r.next.first
section
variable {w0 x:World} {b:Nat} {st:List Int×Bool} {own:List Bk}
theorem vqSideW(h:PE w0 b st own x){q:Nat}{L:List ByteArray}(hw:Zf x q 9 (Zcz L))(k:Int)(h1:1≤k)(h2:k≤3):Calls Tryz.prog 78 #[.int .i64 k] x fun e y=>e=.returned (.string (wd Zp k))∧PE w0 b st own y∧Zf y q 9 (Zcz L):=
 (uSide k x h1 h2).mono fun e y ⟨he,hb⟩=>⟨he,h.call hb,hw.below hb hw.inside⟩
theorem Zjv(h:PE w0 b st own x){q:Nat}{L:List ByteArray}(hw:Zf x q 9 (Zcz L))(k:Int)(n c:Nat)(hn:n=L.length)(h1:1≤k)(h2:k≤L.length)(h3:L.length≤1000) :
  Calls Tryz.prog 87 #[.int .i64 k,.slice (some ⟨q,0,none⟩) n c] x fun e y=>e=.returned (.string (wd L k))∧PE w0 b st own y:=by
 subst hn;obtain⟨j,hj⟩:∃ j:Nat,k=(j:Int)+1:=⟨(k - 1).toNat,by omega⟩
 subst hj;have hjl:j<L.length:=by omega
 have hwd:wd L ((j:Int)+1)=L[j]:=by
  have e:((j:Int)+1).toNat - 1=j:=by omega
  unfold wd;rw[e,List.getElem?_eq_getElem hjl];rfl
 have hc:x.cell? ⟨q,j,none⟩=some (.string (wd L ((j:Int)+1))):=by
  rw[hw.read,hwd];simp[Zcz,hjl]
 refine(vqWord0 x j q L.length c _ hjl h3 hc).mono ?_;rintro e y ⟨rfl,rfl⟩;exact⟨rfl,h⟩
end
theorem pFilterOK(w0:World)(f:Fl)(hv:VFl f):Zbq w0 100 (.agg #[.int .i64 f.kind,.int .i64 f.op,.int .i64 f.n,.string f.name]) (kFl f):=fun b st own x h hr=>pFilter h f hv hr
theorem pSel_one(w0:World)(k sd wh ln pk:Int)(fv:Value)(hk:k=1∨k=2):Zbq w0 77 (.agg #[.int .i64 k,.int .i64 sd,.int .i64 wh,.int .i64 ln,fv,.int .i64 pk]) [wd Ym k]:=
 fun b st own x h hr=>h.print fun a v hb hB=>sel_one _ x b a v st k sd wh ln pk fv hk hb hB hr
theorem fls_range{N:Nat→Prop}{w:World}{A:Option Addr}{l:List Fl}{xs:List Value}(hw:Vw N w A xs)(hd:Zn N w (Zdy l) xs){k:Nat}(hk:k<l.length) :
  ∃ g,A=some ⟨g,0,none⟩∧g<w.heap.size∧w.rangeAt g (k*4) [.int .i64 (l[k]'hk).kind,.int .i64 (l[k]'hk).op,.int .i64 (l[k]'hk).n,.string (l[k]'hk).name]:=by
 have hl:=fls_len hd;obtain⟨g,hA,hg,hc⟩:=hw.reads (by omega);refine⟨g,hA,hg,fun j v hv=>?_⟩;have hj:j<4:=(List.getElem?_eq_some_iff.1 hv).1;rw[hc _ (by omega),fls_at hd k hk j hj];exact hv
theorem e_open:wd Ym 3=⟨#[40]⟩:=by decide +kernel
theorem pSel_3(w0:World)(N:Nat→Prop)(sd ln pk:Int)(fs:List Fl)(A:Option Addr)(n c:Nat)(xs:List Value)(hw:Vw N w0 A xs)(hd:Zn N w0 (Zdy fs) xs)(hn:n=fs.length)(hm:n≤9223372036854775807)(hfl:∀ f ∈ fs,VFl f)
  (h1:1≤sd)(h2:sd≤3)(h5:0≤ln)(h6:ln≤99)(h7:1≤pk)(h8:pk≤5) :
  Zbq w0 77 (.agg #[.int .i64 3,.int .i64 sd,.int .i64 3,.int .i64 ln,.slice A n c,.int .i64 pk]) ([wd Ym 3]++([wd Zp sd,wd Ye 3]++([Wu ln]++(Zls fs++([wd Vz pk,⟨#[41]⟩]))))):=by
 intro b st own x h hr;obtain⟨s1,E1⟩:∃ s,s=Yq st ([wd Ym 3]):=⟨_,rfl⟩
 have R1:=Hh (Vg.first hr);replace hr:=Vg.next hr;rw[←E1]at hr;obtain⟨s2,E2⟩:∃ s,s=Yq s1 ([wd Zp sd,wd Ye 3]):=⟨_,rfl⟩
 have R2:=Hh (Vg.first hr);replace hr:=Vg.next hr;rw[←E2]at hr;obtain⟨s3,E3⟩:∃ s,s=Yq s2 ([Wu ln]):=⟨_,rfl⟩
 have R3:=Hh (Vg.first hr);replace hr:=Vg.next hr;rw[←E3]at hr;obtain⟨s4,E4⟩:∃ s,s=Yq s3 (Zls fs):=⟨_,rfl⟩
 have R4:=Hh (Vg.first hr);replace hr:=Vg.next hr;rw[←E4]at hr;obtain⟨s5,E5⟩:∃ s,s=Yq s4 ([wd Vz pk,⟨#[41]⟩]):=⟨_,rfl⟩
 have R5:=Hh hr;clear hr;have EK:Yq st (([wd Ym 3])++(([wd Zp sd,wd Ye 3])++(([Wu ln])++((Zls fs)++(([wd Vz pk,⟨#[41]⟩]))))))=s5:=by simp only[Wh,E1,E2,E3,E4,E5]
 rw[EK];clear EK;have P1:=Hh (fun own x=>Jk (w0:=w0) (b:=b) E1 R1.out (by simp) own x);have P2:=Hh (fun own x=>Jk (w0:=w0) (b:=b) E2 R2.out (by simp) own x);have P3:=Hh (fun own x=>Jk (w0:=w0) (b:=b) E3 R3.out (by simp) own x);have P5:=Hh (fun own x=>Jk (w0:=w0) (b:=b) E5 R5.out (by simp) own x);have HW:=Hh (And.intro hw hd);have HN:=Hh hn;have HF:=Hh hfl;clear hw hd hn hfl;have HE1:=Hh E1;clear E1;have HE2:=Hh E2;clear E2;have HE3:=Hh E3;clear E3;have HE4:=Hh E4;clear E4;have HE5:=Hh E5;clear E5;have T:=Hh h;clear h;have l63:(n:Int)≤9223372036854775807:=by omega
 go_enter Tryz.func77,Tryz.ntmps77;go_upto_region 3 with(first
 |((with_reducible refine Zd 3 ?_);refine Wm T.out 49 _ ([.int .i64 3,.int .i64 sd,.int .i64 3,.int .i64 ln,.slice A n c,.int .i64 pk]) rfl rfl rfl ?_;intro wn g0 tn;have T:=Hh tn;clear tn;have c0_0:wn.cell? ⟨g0,0,none⟩=some (.int .i64 3):=(T.out.get 0 rfl).read 0;have c0_1:wn.cell? ⟨g0,1,none⟩=some (.int .i64 sd):=(T.out.get 0 rfl).read 1;have c0_2:wn.cell? ⟨g0,2,none⟩=some (.int .i64 3):=(T.out.get 0 rfl).read 2;have c0_3:wn.cell? ⟨g0,3,none⟩=some (.int .i64 ln):=(T.out.get 0 rfl).read 3;have c0_4:wn.cell? ⟨g0,4,none⟩=some (.slice A n c):=(T.out.get 0 rfl).read 4;have c0_5:wn.cell? ⟨g0,5,none⟩=some (.int .i64 pk):=(T.out.get 0 rfl).read 5)
 |(go_at_call 87;refine(Zlb T.out (3) _ 3 3 Ym rfl rfl (by decide) (by decide) (by decide)).mono ?_;rintro e wn ⟨rfl,tn⟩;have T:=Hh tn;clear tn;have c0_0:wn.cell? ⟨g0,0,none⟩=some (.int .i64 3):=(T.out.get 0 rfl).read 0;have c0_1:wn.cell? ⟨g0,1,none⟩=some (.int .i64 sd):=(T.out.get 0 rfl).read 1;have c0_2:wn.cell? ⟨g0,2,none⟩=some (.int .i64 3):=(T.out.get 0 rfl).read 2;have c0_3:wn.cell? ⟨g0,3,none⟩=some (.int .i64 ln):=(T.out.get 0 rfl).read 3;have c0_4:wn.cell? ⟨g0,4,none⟩=some (.slice A n c):=(T.out.get 0 rfl).read 4;have c0_5:wn.cell? ⟨g0,5,none⟩=some (.int .i64 pk):=(T.out.get 0 rfl).read 5)
 |(go_at_call 56;refine(P1.out _ _ _ _ _ T.out rfl rfl).mono ?_;rintro e wn ⟨rfl,tn⟩;have T:=Hh tn;clear tn;have c0_0:wn.cell? ⟨g0,0,none⟩=some (.int .i64 3):=(T.out.get 0 rfl).read 0;have c0_1:wn.cell? ⟨g0,1,none⟩=some (.int .i64 sd):=(T.out.get 0 rfl).read 1;have c0_2:wn.cell? ⟨g0,2,none⟩=some (.int .i64 3):=(T.out.get 0 rfl).read 2;have c0_3:wn.cell? ⟨g0,3,none⟩=some (.int .i64 ln):=(T.out.get 0 rfl).read 3;have c0_4:wn.cell? ⟨g0,4,none⟩=some (.slice A n c):=(T.out.get 0 rfl).read 4;have c0_5:wn.cell? ⟨g0,5,none⟩=some (.int .i64 pk):=(T.out.get 0 rfl).read 5))
 go_cut []from 16 to 25 (fun wx=>PE w0 b s2 ((g0,49,[.int .i64 3,.int .i64 sd,.int .i64 3,.int .i64 ln,.slice A n c,.int .i64 pk])::own) wx)
 case first=>
  refine wp_region_held_drew (S:=fun x=>∃ s,PE w0 b s ((g0,49,[.int .i64 3,.int .i64 sd,.int .i64 3,.int .i64 ln,.slice A n c,.int .i64 pk])::own) x) (by kernel_rfl) ⟨_,T.out.drew⟩ (fun hS=>?_);have hP:=T.out.drew;generalize wn.drew=wf at *;refine Um (i:=0) (v:=.pointer (some ⟨b,0,none⟩)) rfl rfl (by kernel_rfl) (by kernel_rfl) (by kernel_rfl) (fun _ _ _ h=>h) (qyMove rfl rfl rfl) hS ?_;try simp only[Qy,Qx]
  refine Um (i:=1) (v:=.pointer (some ⟨g0,1,none⟩)) rfl rfl (by kernel_rfl) (by kernel_rfl) (by kernel_rfl) (fun _ _ _ h=>h) (Or.inl ⟨by rfl,fun y hy=>by go_simp⟩) hS ?_;try simp only[Qy,Qx]
  refine Um (i:=2) (v:=.int .i64 sd) rfl rfl (by kernel_rfl) (by kernel_rfl) (by kernel_rfl) (fun _ _ _ h=>h) (Or.inl ⟨by rfl,fun y hy=>by obtain⟨_,hy⟩:=hy;have c0:=(PE.get hy 0 rfl).read 1;go_simp⟩) hS ?_;try simp only[Qy,Qx]
  refine Um (i:=4) (v:=.pointer (some ⟨g0,2,none⟩)) rfl rfl (by kernel_rfl) (by kernel_rfl) (by kernel_rfl) (fun _ _ _ h=>h) (Or.inl ⟨by rfl,fun y hy=>by go_simp⟩) hS ?_;try simp only[Qy,Qx]
  refine Um (i:=5) (v:=.int .i64 3) rfl rfl (by kernel_rfl) (by kernel_rfl) (by kernel_rfl) (fun _ _ _ h=>h) (Or.inl ⟨by rfl,fun y hy=>by obtain⟨_,hy⟩:=hy;have c0:=(PE.get hy 0 rfl).read 2;go_simp⟩) hS ?_;try simp only[Qy,Qx]
  refine wpAnyH_ready (rs:=[3,6]) (by kernel_rfl) (by simp) (AllReadyH.cons rfl (fun K hK=>?_) (AllReadyH.cons rfl (fun K hK=>?_) AllReadyH.nil))
  · clear hS
    go_simp;go_at_call 78
    refine(vqSide hP sd h1 h2).mono ?_;rintro e wf ⟨rfl,hP2⟩;clear hP;have hP:=hP2;clear hP2;refine hK.out _ _ ⟨_,hP⟩ (fun hS=>?_);clear hK K;try simp only[Act.put,Qz,Qy,Qx]
    refine wpAnyH_ready (rs:=[6]) (by kernel_rfl) (by simp) (AllReadyH.cons rfl (fun K hK=>?_) AllReadyH.nil);clear hS;go_simp;have hP2:=hP.call (Zi wf (.cells #[.string ⟨#[104,101,114,101]⟩,.string ⟨#[97,119,97,121]⟩,.string ⟨#[108,97,110,101]⟩,.string ⟨#[97,110,121,119,104,101,114,101]⟩] 9));have hW:Zf (World.alloc wf (.cells #[.string ⟨#[104,101,114,101]⟩,.string ⟨#[97,119,97,121]⟩,.string ⟨#[108,97,110,101]⟩,.string ⟨#[97,110,121,119,104,101,114,101]⟩] 9)) wf.heap.size 9 (Zcz Ye):=Zf.made _ _ _;obtain⟨q,hq⟩:∃ q,q=wf.heap.size:=⟨_,rfl⟩
    rw[←hq]at hW ⊢;clear hq hP;generalize World.alloc wf (.cells #[.string ⟨#[104,101,114,101]⟩,.string ⟨#[97,119,97,121]⟩,.string ⟨#[108,97,110,101]⟩,.string ⟨#[97,110,121,119,104,101,114,101]⟩] 9)=wf at *;have hP:=hP2;clear hP2;refine hK.out _ _ ⟨_,hP⟩ (fun hS=>?_);clear hK K;try simp only[Act.put,Qz,Qy,Qx]
    refine wpAnyH_ready (rs:=[7]) (by kernel_rfl) (by simp) (AllReadyH.cons rfl (fun K hK=>?_) AllReadyH.nil);clear hS;go_simp;go_at_call 87
    refine(Zjv hP hW (3) 4 4 rfl (by decide) (by decide) (by decide)).mono ?_;rintro e wf ⟨rfl,hP2⟩;clear hW;clear hP;have hP:=hP2;clear hP2;refine hK.out _ _ ⟨_,hP⟩ (fun hS=>?_);clear hK K;try simp only[Act.put,Qz,Qy,Qx]
    refine wpAnyH_ready (rs:=[8]) (by kernel_rfl) (by simp) (AllReadyH.cons rfl (fun K hK=>?_) AllReadyH.nil);clear hS;go_simp;refine hK.out _ _ ⟨_,hP.call (Zi wf (.cells #[.string (wd Zp sd),.string (wd Ye 3)] 9))⟩ (fun hS=>?_);clear hK K;try simp only[Act.put,Qz,Qy,Qx]
    refine wpAnyH_ready (rs:=[9]) (by kernel_rfl) (by simp) (AllReadyH.cons rfl (fun K hK=>?_) AllReadyH.nil);clear hS;go_simp;go_at_call 56
    refine(P2.out _ _ _ _ _ hP rfl rfl).mono ?_;rintro e wf ⟨rfl,hP2⟩;clear hP;have hP:=hP2;clear hP2;refine hK.out _ _ ⟨_,hP⟩ (fun hS=>?_);clear hK K;try simp only[Act.put,Qz,Qy,Qx]
    refine wpAnyH_done (by kernel_rfl) ?_ _;have T:=Hh hP;clear hP hS;go_wp2_with fail
    go_meet
    case rel=>exact T.out
  · clear hS
    go_simp;have hP2:=hP.call (Zi wf (.cells #[.string ⟨#[104,101,114,101]⟩,.string ⟨#[97,119,97,121]⟩,.string ⟨#[108,97,110,101]⟩,.string ⟨#[97,110,121,119,104,101,114,101]⟩] 9));have hW:Zf (World.alloc wf (.cells #[.string ⟨#[104,101,114,101]⟩,.string ⟨#[97,119,97,121]⟩,.string ⟨#[108,97,110,101]⟩,.string ⟨#[97,110,121,119,104,101,114,101]⟩] 9)) wf.heap.size 9 (Zcz Ye):=Zf.made _ _ _;obtain⟨q,hq⟩:∃ q,q=wf.heap.size:=⟨_,rfl⟩
    rw[←hq]at hW ⊢;clear hq hP;generalize World.alloc wf (.cells #[.string ⟨#[104,101,114,101]⟩,.string ⟨#[97,119,97,121]⟩,.string ⟨#[108,97,110,101]⟩,.string ⟨#[97,110,121,119,104,101,114,101]⟩] 9)=wf at *;have hP:=hP2;clear hP2;refine hK.out _ _ ⟨_,hP⟩ (fun hS=>?_);clear hK K;try simp only[Act.put,Qz,Qy,Qx]
    refine wpAnyH_ready (rs:=[3]) (by kernel_rfl) (by simp) (AllReadyH.cons rfl (fun K hK=>?_) AllReadyH.nil);clear hS;go_simp;go_at_call 78
    refine(vqSideW hP hW sd h1 h2).mono ?_;rintro e wf ⟨rfl,hP2,hW2⟩;clear hW;have hW:=hW2;clear hW2;clear hP;have hP:=hP2;clear hP2;refine hK.out _ _ ⟨_,hP⟩ (fun hS=>?_);clear hK K;try simp only[Act.put,Qz,Qy,Qx]
    refine wpAnyH_ready (rs:=[7]) (by kernel_rfl) (by simp) (AllReadyH.cons rfl (fun K hK=>?_) AllReadyH.nil);clear hS;go_simp;go_at_call 87
    refine(Zjv hP hW (3) 4 4 rfl (by decide) (by decide) (by decide)).mono ?_;rintro e wf ⟨rfl,hP2⟩;clear hW;clear hP;have hP:=hP2;clear hP2;refine hK.out _ _ ⟨_,hP⟩ (fun hS=>?_);clear hK K;try simp only[Act.put,Qz,Qy,Qx]
    refine wpAnyH_ready (rs:=[8]) (by kernel_rfl) (by simp) (AllReadyH.cons rfl (fun K hK=>?_) AllReadyH.nil);clear hS;go_simp;refine hK.out _ _ ⟨_,hP.call (Zi wf (.cells #[.string (wd Zp sd),.string (wd Ye 3)] 9))⟩ (fun hS=>?_);clear hK K;try simp only[Act.put,Qz,Qy,Qx]
    refine wpAnyH_ready (rs:=[9]) (by kernel_rfl) (by simp) (AllReadyH.cons rfl (fun K hK=>?_) AllReadyH.nil);clear hS;go_simp;go_at_call 56
    refine(P2.out _ _ _ _ _ hP rfl rfl).mono ?_;rintro e wf ⟨rfl,hP2⟩;clear hP;have hP:=hP2;clear hP2;refine hK.out _ _ ⟨_,hP⟩ (fun hS=>?_);clear hK K;try simp only[Act.put,Qz,Qy,Qx]
    refine wpAnyH_done (by kernel_rfl) ?_ _;have T:=Hh hP;clear hP hS;go_wp2_with fail
    go_meet
    case rel=>exact T.out
 case rest=>
  have T:=Hh hcut;clear hcut;have c0_0:wc.cell? ⟨g0,0,none⟩=some (.int .i64 3):=(T.out.get 0 rfl).read 0;have c0_1:wc.cell? ⟨g0,1,none⟩=some (.int .i64 sd):=(T.out.get 0 rfl).read 1;have c0_2:wc.cell? ⟨g0,2,none⟩=some (.int .i64 3):=(T.out.get 0 rfl).read 2;have c0_3:wc.cell? ⟨g0,3,none⟩=some (.int .i64 ln):=(T.out.get 0 rfl).read 3;have c0_4:wc.cell? ⟨g0,4,none⟩=some (.slice A n c):=(T.out.get 0 rfl).read 4;have c0_5:wc.cell? ⟨g0,5,none⟩=some (.int .i64 pk):=(T.out.get 0 rfl).read 5;go_wp2_with(first
 |(go_at_call 58;(with_reducible refine(vqNum T.out (ln) (by omega) (by omega)).mono ?_);rintro e wn ⟨rfl,tn⟩;have T:=Hh tn;clear tn;have c0_0:wn.cell? ⟨g0,0,none⟩=some (.int .i64 3):=(T.out.get 0 rfl).read 0;have c0_1:wn.cell? ⟨g0,1,none⟩=some (.int .i64 sd):=(T.out.get 0 rfl).read 1;have c0_2:wn.cell? ⟨g0,2,none⟩=some (.int .i64 3):=(T.out.get 0 rfl).read 2;have c0_3:wn.cell? ⟨g0,3,none⟩=some (.int .i64 ln):=(T.out.get 0 rfl).read 3;have c0_4:wn.cell? ⟨g0,4,none⟩=some (.slice A n c):=(T.out.get 0 rfl).read 4;have c0_5:wn.cell? ⟨g0,5,none⟩=some (.int .i64 pk):=(T.out.get 0 rfl).read 5)
 |(go_at_call 56;refine(P3.out _ _ _ _ _ T.out rfl rfl).mono ?_;rintro e wn ⟨rfl,tn⟩;have T:=Hh tn;clear tn;have c0_0:wn.cell? ⟨g0,0,none⟩=some (.int .i64 3):=(T.out.get 0 rfl).read 0;have c0_1:wn.cell? ⟨g0,1,none⟩=some (.int .i64 sd):=(T.out.get 0 rfl).read 1;have c0_2:wn.cell? ⟨g0,2,none⟩=some (.int .i64 3):=(T.out.get 0 rfl).read 2;have c0_3:wn.cell? ⟨g0,3,none⟩=some (.int .i64 ln):=(T.out.get 0 rfl).read 3;have c0_4:wn.cell? ⟨g0,4,none⟩=some (.slice A n c):=(T.out.get 0 rfl).read 4;have c0_5:wn.cell? ⟨g0,5,none⟩=some (.int .i64 pk):=(T.out.get 0 rfl).read 5))
  go_loopw [38] (fun i wr=>∃ m:Nat,i=.int .i64 m∧m≤n∧PE w0 b (midS kFl fs s3 m) ((g0,49,[.int .i64 3,.int .i64 sd,.int .i64 3,.int .i64 ln,.slice A n c,.int .i64 pk])::own) wr) (fun i _=>n - (intOf i).toNat)
  case atStart=>exact⟨0,by go_num,Nat.zero_le _,T.out⟩
  case round=>
    obtain⟨m,rfl,hm2,hT⟩:=hrel;have T:=Hh hT;clear hT;by_cases hlt:m<n
    ·have hk1:m<fs.length:=by rw[←HN.out];exact hlt
     obtain⟨g,rfl,hg,hR⟩:=fls_range HW.out.1 HW.out.2 hk1;have F:=(pFilterOK w0 (fs[m]'hk1) (HF.out _ (List.getElem_mem hk1))).at_ (b:=b) (midS_next kFl fs s3 hk1) (midS_room R4.out hk1);have HR:=Hh hR;clear hR;generalize fs[m]'hk1=f at *;obtain⟨fk,fo,fn,fnm⟩:=f;dsimp only at F HR;have FF:=Hh F;clear F hk1;have lk:(m:Int)<(n:Int):=by omega
     go_wp2_with(first
 |((with_reducible refine Zd 41 ?_);refine Zab 174 _ g (m*4) ([.int .i64 fk,.int .i64 fo,.int .i64 fn,.string fnm]) (T.out.ranges HR.out hg) Zki Zei rfl rfl rfl ?_)
 |((with_reducible refine Zd 5 ?_);refine Zbr T.out 174 ([.int .i64 0,.int .i64 0,.int .i64 0,.string ⟨#[]⟩]) rfl rfl qz_fil ?_;intro wn g5 tn;have T:=Hh tn;clear tn)
 |((with_reducible refine Zg 5 41 ?_);refine Za 174 _ _ 174 g5 _ ([.int .i64 fk,.int .i64 fo,.int .i64 fn,.string fnm]) (T.out.get 0 rfl) rfl Zei (by simp[Value.oneCell']) rfl rfl rfl rfl rfl ?_;intro wn p;have T:=Hh (T.out.put 0 rfl p);clear p)
 |((with_reducible refine Zd 43 ?_);refine Zb 174 _ 174 g5 ([.int .i64 fk,.int .i64 fo,.int .i64 fn,.string fnm]) (T.out.get 0 rfl) Zki Zei rfl rfl rfl ?_)
 |(go_at_call 100;refine(FF.out _ _ T.out).mono ?_;rintro e wn ⟨rfl,tn⟩;have T:=Hh tn;clear tn))
     go_roundw
     case rel=>exact⟨m+1,by go_num,by omega,T.out.tail⟩
     case measure=>simp[intOf];omega
    ·have hmn:m=fs.length:=by have:=HN.out;omega
     have T3:PE w0 b s4 ((g0,49,[.int .i64 3,.int .i64 sd,.int .i64 3,.int .i64 ln,.slice A n c,.int .i64 pk])::own) wr:=by
      have:=T.out;rw[hmn,midS_end]at this;rw[HE4.out];exact this
     have T:=Hh T3;clear T3;have lk:¬(m:Int)<(n:Int):=by omega
     clear hmn;have c0_5:wr.cell? ⟨g0,5,none⟩=some (.int .i64 pk):=(T.out.get 0 rfl).read 5;go_wp2_with(first
 |(go_at_call 87;refine(Zlb T.out (pk) _ 5 5 Vz rfl rfl (by omega) (by show _≤((5:Nat):Int);omega) (by decide)).mono ?_;rintro e wn ⟨rfl,tn⟩;have T:=Hh tn;clear tn;have c0_5:wn.cell? ⟨g0,5,none⟩=some (.int .i64 pk):=(T.out.get 0 rfl).read 5)
 |(go_at_call 56;refine(P5.out _ _ _ _ _ T.out rfl rfl).mono ?_;rintro e wn ⟨rfl,tn⟩;have T:=Hh tn;clear tn;have c0_5:wn.cell? ⟨g0,5,none⟩=some (.int .i64 pk):=(T.out.get 0 rfl).read 5))
     go_end0
     exact⟨rfl,T.out.tail⟩
theorem pSel_n(w0:World)(N:Nat→Prop)(sd wh ln pk:Int)(fs:List Fl)(A:Option Addr)(n c:Nat)(xs:List Value)(hw:Vw N w0 A xs)(hd:Zn N w0 (Zdy fs) xs)(hn:n=fs.length)(hm:n≤9223372036854775807)(hfl:∀ f ∈ fs,VFl f)
  (h1:1≤sd)(h2:sd≤3)(h3:1≤wh)(h4:wh≤4)(hw3:wh≠3)(h5:0≤ln)(h6:ln≤99)(h7:1≤pk)(h8:pk≤5) :
  Zbq w0 77 (.agg #[.int .i64 3,.int .i64 sd,.int .i64 wh,.int .i64 ln,.slice A n c,.int .i64 pk]) ([wd Ym 3]++([wd Zp sd,wd Ye wh]++(Zls fs++([wd Vz pk,⟨#[41]⟩])))):=by
 intro b st own x h hr;obtain⟨s1,E1⟩:∃ s,s=Yq st ([wd Ym 3]):=⟨_,rfl⟩
 have R1:=Hh (Vg.first hr);replace hr:=Vg.next hr;rw[←E1]at hr;obtain⟨s2,E2⟩:∃ s,s=Yq s1 ([wd Zp sd,wd Ye wh]):=⟨_,rfl⟩
 have R2:=Hh (Vg.first hr);replace hr:=Vg.next hr;rw[←E2]at hr;obtain⟨s3,E3⟩:∃ s,s=Yq s2 (Zls fs):=⟨_,rfl⟩
 have R3:=Hh (Vg.first hr);replace hr:=Vg.next hr;rw[←E3]at hr;obtain⟨s4,E4⟩:∃ s,s=Yq s3 ([wd Vz pk,⟨#[41]⟩]):=⟨_,rfl⟩
 have R4:=Hh hr;clear hr;have EK:Yq st (([wd Ym 3])++(([wd Zp sd,wd Ye wh])++((Zls fs)++(([wd Vz pk,⟨#[41]⟩])))))=s4:=by simp only[Wh,E1,E2,E3,E4]
 rw[EK];clear EK;have P1:=Hh (fun own x=>Jk (w0:=w0) (b:=b) E1 R1.out (by simp) own x);have P2:=Hh (fun own x=>Jk (w0:=w0) (b:=b) E2 R2.out (by simp) own x);have P4:=Hh (fun own x=>Jk (w0:=w0) (b:=b) E4 R4.out (by simp) own x);have HW:=Hh (And.intro hw hd);have HN:=Hh hn;have HF:=Hh hfl;clear hw hd hn hfl;have HE1:=Hh E1;clear E1;have HE2:=Hh E2;clear E2;have HE3:=Hh E3;clear E3;have HE4:=Hh E4;clear E4;have T:=Hh h;clear h;have l63:(n:Int)≤9223372036854775807:=by omega
 have hb3:(wh == 3)=false:=by rw[beq_eq_false_iff_ne];exact hw3
 go_enter Tryz.func77,Tryz.ntmps77;go_upto_region 3 with(first
 |((with_reducible refine Zd 3 ?_);refine Wm T.out 49 _ ([.int .i64 3,.int .i64 sd,.int .i64 wh,.int .i64 ln,.slice A n c,.int .i64 pk]) rfl rfl rfl ?_;intro wn g0 tn;have T:=Hh tn;clear tn;have c0_0:wn.cell? ⟨g0,0,none⟩=some (.int .i64 3):=(T.out.get 0 rfl).read 0;have c0_1:wn.cell? ⟨g0,1,none⟩=some (.int .i64 sd):=(T.out.get 0 rfl).read 1;have c0_2:wn.cell? ⟨g0,2,none⟩=some (.int .i64 wh):=(T.out.get 0 rfl).read 2;have c0_3:wn.cell? ⟨g0,3,none⟩=some (.int .i64 ln):=(T.out.get 0 rfl).read 3;have c0_4:wn.cell? ⟨g0,4,none⟩=some (.slice A n c):=(T.out.get 0 rfl).read 4;have c0_5:wn.cell? ⟨g0,5,none⟩=some (.int .i64 pk):=(T.out.get 0 rfl).read 5)
 |(go_at_call 87;refine(Zlb T.out (3) _ 3 3 Ym rfl rfl (by decide) (by decide) (by decide)).mono ?_;rintro e wn ⟨rfl,tn⟩;have T:=Hh tn;clear tn;have c0_0:wn.cell? ⟨g0,0,none⟩=some (.int .i64 3):=(T.out.get 0 rfl).read 0;have c0_1:wn.cell? ⟨g0,1,none⟩=some (.int .i64 sd):=(T.out.get 0 rfl).read 1;have c0_2:wn.cell? ⟨g0,2,none⟩=some (.int .i64 wh):=(T.out.get 0 rfl).read 2;have c0_3:wn.cell? ⟨g0,3,none⟩=some (.int .i64 ln):=(T.out.get 0 rfl).read 3;have c0_4:wn.cell? ⟨g0,4,none⟩=some (.slice A n c):=(T.out.get 0 rfl).read 4;have c0_5:wn.cell? ⟨g0,5,none⟩=some (.int .i64 pk):=(T.out.get 0 rfl).read 5)
 |(go_at_call 56;refine(P1.out _ _ _ _ _ T.out rfl rfl).mono ?_;rintro e wn ⟨rfl,tn⟩;have T:=Hh tn;clear tn;have c0_0:wn.cell? ⟨g0,0,none⟩=some (.int .i64 3):=(T.out.get 0 rfl).read 0;have c0_1:wn.cell? ⟨g0,1,none⟩=some (.int .i64 sd):=(T.out.get 0 rfl).read 1;have c0_2:wn.cell? ⟨g0,2,none⟩=some (.int .i64 wh):=(T.out.get 0 rfl).read 2;have c0_3:wn.cell? ⟨g0,3,none⟩=some (.int .i64 ln):=(T.out.get 0 rfl).read 3;have c0_4:wn.cell? ⟨g0,4,none⟩=some (.slice A n c):=(T.out.get 0 rfl).read 4;have c0_5:wn.cell? ⟨g0,5,none⟩=some (.int .i64 pk):=(T.out.get 0 rfl).read 5))
 go_cut []from 16 to 25 (fun wx=>PE w0 b s2 ((g0,49,[.int .i64 3,.int .i64 sd,.int .i64 wh,.int .i64 ln,.slice A n c,.int .i64 pk])::own) wx)
 case first=>
  refine wp_region_held_drew (S:=fun x=>∃ s,PE w0 b s ((g0,49,[.int .i64 3,.int .i64 sd,.int .i64 wh,.int .i64 ln,.slice A n c,.int .i64 pk])::own) x) (by kernel_rfl) ⟨_,T.out.drew⟩ (fun hS=>?_);have hP:=T.out.drew;generalize wn.drew=wf at *;refine Um (i:=0) (v:=.pointer (some ⟨b,0,none⟩)) rfl rfl (by kernel_rfl) (by kernel_rfl) (by kernel_rfl) (fun _ _ _ h=>h) (qyMove rfl rfl rfl) hS ?_;try simp only[Qy,Qx]
  refine Um (i:=1) (v:=.pointer (some ⟨g0,1,none⟩)) rfl rfl (by kernel_rfl) (by kernel_rfl) (by kernel_rfl) (fun _ _ _ h=>h) (Or.inl ⟨by rfl,fun y hy=>by go_simp⟩) hS ?_;try simp only[Qy,Qx]
  refine Um (i:=2) (v:=.int .i64 sd) rfl rfl (by kernel_rfl) (by kernel_rfl) (by kernel_rfl) (fun _ _ _ h=>h) (Or.inl ⟨by rfl,fun y hy=>by obtain⟨_,hy⟩:=hy;have c0:=(PE.get hy 0 rfl).read 1;go_simp⟩) hS ?_;try simp only[Qy,Qx]
  refine Um (i:=4) (v:=.pointer (some ⟨g0,2,none⟩)) rfl rfl (by kernel_rfl) (by kernel_rfl) (by kernel_rfl) (fun _ _ _ h=>h) (Or.inl ⟨by rfl,fun y hy=>by go_simp⟩) hS ?_;try simp only[Qy,Qx]
  refine Um (i:=5) (v:=.int .i64 wh) rfl rfl (by kernel_rfl) (by kernel_rfl) (by kernel_rfl) (fun _ _ _ h=>h) (Or.inl ⟨by rfl,fun y hy=>by obtain⟨_,hy⟩:=hy;have c0:=(PE.get hy 0 rfl).read 2;go_simp⟩) hS ?_;try simp only[Qy,Qx]
  refine wpAnyH_ready (rs:=[3,6]) (by kernel_rfl) (by simp) (AllReadyH.cons rfl (fun K hK=>?_) (AllReadyH.cons rfl (fun K hK=>?_) AllReadyH.nil))
  · clear hS
    go_simp;go_at_call 78
    refine(vqSide hP sd h1 h2).mono ?_;rintro e wf ⟨rfl,hP2⟩;clear hP;have hP:=hP2;clear hP2;refine hK.out _ _ ⟨_,hP⟩ (fun hS=>?_);clear hK K;try simp only[Act.put,Qz,Qy,Qx]
    refine wpAnyH_ready (rs:=[6]) (by kernel_rfl) (by simp) (AllReadyH.cons rfl (fun K hK=>?_) AllReadyH.nil);clear hS;go_simp;have hP2:=hP.call (Zi wf (.cells #[.string ⟨#[104,101,114,101]⟩,.string ⟨#[97,119,97,121]⟩,.string ⟨#[108,97,110,101]⟩,.string ⟨#[97,110,121,119,104,101,114,101]⟩] 9));have hW:Zf (World.alloc wf (.cells #[.string ⟨#[104,101,114,101]⟩,.string ⟨#[97,119,97,121]⟩,.string ⟨#[108,97,110,101]⟩,.string ⟨#[97,110,121,119,104,101,114,101]⟩] 9)) wf.heap.size 9 (Zcz Ye):=Zf.made _ _ _;obtain⟨q,hq⟩:∃ q,q=wf.heap.size:=⟨_,rfl⟩
    rw[←hq]at hW ⊢;clear hq hP;generalize World.alloc wf (.cells #[.string ⟨#[104,101,114,101]⟩,.string ⟨#[97,119,97,121]⟩,.string ⟨#[108,97,110,101]⟩,.string ⟨#[97,110,121,119,104,101,114,101]⟩] 9)=wf at *;have hP:=hP2;clear hP2;refine hK.out _ _ ⟨_,hP⟩ (fun hS=>?_);clear hK K;try simp only[Act.put,Qz,Qy,Qx]
    refine wpAnyH_ready (rs:=[7]) (by kernel_rfl) (by simp) (AllReadyH.cons rfl (fun K hK=>?_) AllReadyH.nil);clear hS;go_simp;go_at_call 87
    refine(Zjv hP hW (wh) 4 4 rfl h3 (by show _≤((4:Nat):Int);omega) (by decide)).mono ?_;rintro e wf ⟨rfl,hP2⟩;clear hW;clear hP;have hP:=hP2;clear hP2;refine hK.out _ _ ⟨_,hP⟩ (fun hS=>?_);clear hK K;try simp only[Act.put,Qz,Qy,Qx]
    refine wpAnyH_ready (rs:=[8]) (by kernel_rfl) (by simp) (AllReadyH.cons rfl (fun K hK=>?_) AllReadyH.nil);clear hS;go_simp;refine hK.out _ _ ⟨_,hP.call (Zi wf (.cells #[.string (wd Zp sd),.string (wd Ye wh)] 9))⟩ (fun hS=>?_);clear hK K;try simp only[Act.put,Qz,Qy,Qx]
    refine wpAnyH_ready (rs:=[9]) (by kernel_rfl) (by simp) (AllReadyH.cons rfl (fun K hK=>?_) AllReadyH.nil);clear hS;go_simp;go_at_call 56
    refine(P2.out _ _ _ _ _ hP rfl rfl).mono ?_;rintro e wf ⟨rfl,hP2⟩;clear hP;have hP:=hP2;clear hP2;refine hK.out _ _ ⟨_,hP⟩ (fun hS=>?_);clear hK K;try simp only[Act.put,Qz,Qy,Qx]
    refine wpAnyH_done (by kernel_rfl) ?_ _;have T:=Hh hP;clear hP hS;go_wp2_with fail
    go_meet
    case rel=>exact T.out
  · clear hS
    go_simp;have hP2:=hP.call (Zi wf (.cells #[.string ⟨#[104,101,114,101]⟩,.string ⟨#[97,119,97,121]⟩,.string ⟨#[108,97,110,101]⟩,.string ⟨#[97,110,121,119,104,101,114,101]⟩] 9));have hW:Zf (World.alloc wf (.cells #[.string ⟨#[104,101,114,101]⟩,.string ⟨#[97,119,97,121]⟩,.string ⟨#[108,97,110,101]⟩,.string ⟨#[97,110,121,119,104,101,114,101]⟩] 9)) wf.heap.size 9 (Zcz Ye):=Zf.made _ _ _;obtain⟨q,hq⟩:∃ q,q=wf.heap.size:=⟨_,rfl⟩
    rw[←hq]at hW ⊢;clear hq hP;generalize World.alloc wf (.cells #[.string ⟨#[104,101,114,101]⟩,.string ⟨#[97,119,97,121]⟩,.string ⟨#[108,97,110,101]⟩,.string ⟨#[97,110,121,119,104,101,114,101]⟩] 9)=wf at *;have hP:=hP2;clear hP2;refine hK.out _ _ ⟨_,hP⟩ (fun hS=>?_);clear hK K;try simp only[Act.put,Qz,Qy,Qx]
    refine wpAnyH_ready (rs:=[3]) (by kernel_rfl) (by simp) (AllReadyH.cons rfl (fun K hK=>?_) AllReadyH.nil);clear hS;go_simp;go_at_call 78
    refine(vqSideW hP hW sd h1 h2).mono ?_;rintro e wf ⟨rfl,hP2,hW2⟩;clear hW;have hW:=hW2;clear hW2;clear hP;have hP:=hP2;clear hP2;refine hK.out _ _ ⟨_,hP⟩ (fun hS=>?_);clear hK K;try simp only[Act.put,Qz,Qy,Qx]
    refine wpAnyH_ready (rs:=[7]) (by kernel_rfl) (by simp) (AllReadyH.cons rfl (fun K hK=>?_) AllReadyH.nil);clear hS;go_simp;go_at_call 87
    refine(Zjv hP hW (wh) 4 4 rfl h3 (by show _≤((4:Nat):Int);omega) (by decide)).mono ?_;rintro e wf ⟨rfl,hP2⟩;clear hW;clear hP;have hP:=hP2;clear hP2;refine hK.out _ _ ⟨_,hP⟩ (fun hS=>?_);clear hK K;try simp only[Act.put,Qz,Qy,Qx]
    refine wpAnyH_ready (rs:=[8]) (by kernel_rfl) (by simp) (AllReadyH.cons rfl (fun K hK=>?_) AllReadyH.nil);clear hS;go_simp;refine hK.out _ _ ⟨_,hP.call (Zi wf (.cells #[.string (wd Zp sd),.string (wd Ye wh)] 9))⟩ (fun hS=>?_);clear hK K;try simp only[Act.put,Qz,Qy,Qx]
    refine wpAnyH_ready (rs:=[9]) (by kernel_rfl) (by simp) (AllReadyH.cons rfl (fun K hK=>?_) AllReadyH.nil);clear hS;go_simp;go_at_call 56
    refine(P2.out _ _ _ _ _ hP rfl rfl).mono ?_;rintro e wf ⟨rfl,hP2⟩;clear hP;have hP:=hP2;clear hP2;refine hK.out _ _ ⟨_,hP⟩ (fun hS=>?_);clear hK K;try simp only[Act.put,Qz,Qy,Qx]
    refine wpAnyH_done (by kernel_rfl) ?_ _;have T:=Hh hP;clear hP hS;go_wp2_with fail
    go_meet
    case rel=>exact T.out
 case rest=>
  have T:=Hh hcut;clear hcut;have c0_0:wc.cell? ⟨g0,0,none⟩=some (.int .i64 3):=(T.out.get 0 rfl).read 0;have c0_1:wc.cell? ⟨g0,1,none⟩=some (.int .i64 sd):=(T.out.get 0 rfl).read 1;have c0_2:wc.cell? ⟨g0,2,none⟩=some (.int .i64 wh):=(T.out.get 0 rfl).read 2;have c0_3:wc.cell? ⟨g0,3,none⟩=some (.int .i64 ln):=(T.out.get 0 rfl).read 3;have c0_4:wc.cell? ⟨g0,4,none⟩=some (.slice A n c):=(T.out.get 0 rfl).read 4;have c0_5:wc.cell? ⟨g0,5,none⟩=some (.int .i64 pk):=(T.out.get 0 rfl).read 5;go_wp2_with fail
  go_loopw [38] (fun i wr=>∃ m:Nat,i=.int .i64 m∧m≤n∧PE w0 b (midS kFl fs s2 m) ((g0,49,[.int .i64 3,.int .i64 sd,.int .i64 wh,.int .i64 ln,.slice A n c,.int .i64 pk])::own) wr) (fun i _=>n - (intOf i).toNat)
  case atStart=>exact⟨0,by go_num,Nat.zero_le _,T.out⟩
  case round=>
    obtain⟨m,rfl,hm2,hT⟩:=hrel;have T:=Hh hT;clear hT;by_cases hlt:m<n
    ·have hk1:m<fs.length:=by rw[←HN.out];exact hlt
     obtain⟨g,rfl,hg,hR⟩:=fls_range HW.out.1 HW.out.2 hk1;have F:=(pFilterOK w0 (fs[m]'hk1) (HF.out _ (List.getElem_mem hk1))).at_ (b:=b) (midS_next kFl fs s2 hk1) (midS_room R3.out hk1);have HR:=Hh hR;clear hR;generalize fs[m]'hk1=f at *;obtain⟨fk,fo,fn,fnm⟩:=f;dsimp only at F HR;have FF:=Hh F;clear F hk1;have lk:(m:Int)<(n:Int):=by omega
     go_wp2_with(first
 |((with_reducible refine Zd 41 ?_);refine Zab 174 _ g (m*4) ([.int .i64 fk,.int .i64 fo,.int .i64 fn,.string fnm]) (T.out.ranges HR.out hg) Zki Zei rfl rfl rfl ?_)
 |((with_reducible refine Zd 5 ?_);refine Zbr T.out 174 ([.int .i64 0,.int .i64 0,.int .i64 0,.string ⟨#[]⟩]) rfl rfl qz_fil ?_;intro wn g5 tn;have T:=Hh tn;clear tn)
 |((with_reducible refine Zg 5 41 ?_);refine Za 174 _ _ 174 g5 _ ([.int .i64 fk,.int .i64 fo,.int .i64 fn,.string fnm]) (T.out.get 0 rfl) rfl Zei (by simp[Value.oneCell']) rfl rfl rfl rfl rfl ?_;intro wn p;have T:=Hh (T.out.put 0 rfl p);clear p)
 |((with_reducible refine Zd 43 ?_);refine Zb 174 _ 174 g5 ([.int .i64 fk,.int .i64 fo,.int .i64 fn,.string fnm]) (T.out.get 0 rfl) Zki Zei rfl rfl rfl ?_)
 |(go_at_call 100;refine(FF.out _ _ T.out).mono ?_;rintro e wn ⟨rfl,tn⟩;have T:=Hh tn;clear tn))
     go_roundw
     case rel=>exact⟨m+1,by go_num,by omega,T.out.tail⟩
     case measure=>simp[intOf];omega
    ·have hmn:m=fs.length:=by have:=HN.out;omega
     have T3:PE w0 b s3 ((g0,49,[.int .i64 3,.int .i64 sd,.int .i64 wh,.int .i64 ln,.slice A n c,.int .i64 pk])::own) wr:=by
      have:=T.out;rw[hmn,midS_end]at this;rw[HE3.out];exact this
     have T:=Hh T3;clear T3;have lk:¬(m:Int)<(n:Int):=by omega
     clear hmn;have c0_5:wr.cell? ⟨g0,5,none⟩=some (.int .i64 pk):=(T.out.get 0 rfl).read 5;go_wp2_with(first
 |(go_at_call 87;refine(Zlb T.out (pk) _ 5 5 Vz rfl rfl (by omega) (by show _≤((5:Nat):Int);omega) (by decide)).mono ?_;rintro e wn ⟨rfl,tn⟩;have T:=Hh tn;clear tn;have c0_5:wn.cell? ⟨g0,5,none⟩=some (.int .i64 pk):=(T.out.get 0 rfl).read 5)
 |(go_at_call 56;refine(P4.out _ _ _ _ _ T.out rfl rfl).mono ?_;rintro e wn ⟨rfl,tn⟩;have T:=Hh tn;clear tn;have c0_5:wn.cell? ⟨g0,5,none⟩=some (.int .i64 pk):=(T.out.get 0 rfl).read 5))
     go_end0
     exact⟨rfl,T.out.tail⟩
theorem pSel(w0:World)(N:Nat→Prop)(s:Se)(hv:VSe s)(vs:List Value)(hd:Zn N w0 s.ds vs):Zbq w0 77 (.agg vs.toArray) (Zgq s):=by
 obtain⟨k,sd,wh,ln,fs,pk⟩:=s;obtain⟨_,rfl,_,rfl,_,rfl,_,rfl,A,c,xs,_,rfl,hn,hw,hx,_,rfl,rfl⟩:=hd;unfold Zgq;rcases hv with⟨hk,_⟩ | ⟨hk,h1,h2,h3,h4,h5,h6⟩
 ·rw[if_pos hk]
  exact pSel_one w0 k sd wh ln pk _ hk
 ·simp only at hk h1 h2 h3 h4 h5 h6
  subst hk;rw[if_neg (by simp)];by_cases h:wh=3
  ·subst h
   have:=pSel_3 w0 N sd ln pk fs A fs.length c xs hw hx rfl hn.1 h5 h1.1 h1.2 h3.1 h3.2 h6.1 h6.2;rw[e_open]at this;simpa using this
  ·have:=pSel_n w0 N sd wh ln pk fs A fs.length c xs hw hx rfl hn.1 h5 h1.1 h1.2 h2.1 h2.2 h h3.1 h3.2 h6.1 h6.2
   rw[e_open]at this;simpa[h]using this
def Zmc:List ByteArray:=[⟨#[43]⟩,⟨#[45]⟩,⟨#[42]⟩]
def kB(b:Bool)(X:List ByteArray):List ByteArray:=if b=true then [Wn]++(X++[Va])else X
def kLeaf(kind n:Int)(sel:Se)(side tk tl:Int):List ByteArray:=
 if kind=1 then [Wu n]else if kind=2∨kind=3 then [wd Yz (kind - 1)]++Zgq sel else if kind=4 then [wd Yz 3]else if kind=5 then [wd Yz 4,wd Zp side]else [wd Yz 5,wd Zp side]++kTo tk tl
def kEx:Ex→List ByteArray
 |.leaf kind n sel side tk tl=>kLeaf kind n sel side tk tl
 |.bin op l r=>kB (Zcs false op l) (kEx l)++([wd Zmc op]++kB (Zcs true op r) (kEx r))
def Zcy:Ex→Int
 |.leaf .. =>3
 |.bin op _ _=>if op=3 then 2 else 1
def brB(whole tight:Int)(first:Bool):Bool:= !(decide (whole<tight) || (first && (tight == whole)))
theorem br_must{op:Int}(h1:1≤op)(h3:op≤3)(first:Bool):∀ x:Ex,VEx x→brB (Zcy (.bin op x x)) (Zcy x) first=Zcs (!first) op x
 |.leaf ..,_=>by
  unfold brB Zcs Zcy Ex.isSum Ex.isBin;by_cases h:op=3<;>cases first<;>simp[h]
 |.bin o l r,hv=>by
  have h:o=1∨o=2∨o=3:=by have:=hv.1;omega
  have h':op=1∨op=2∨op=3:=by omega
  rcases h with rfl | rfl | rfl<;>rcases h' with rfl | rfl | rfl<;>cases first<;>rfl
theorem tight_raw(k n:Int)(vs:List Value)(hvl:vs.length=12)(h0:vs[0]?=some (.int .i64 k))(h1:vs[1]?=some (.int .i64 n))(w:World) :
  Calls Tryz.prog 101 #[.agg vs.toArray] w fun e w'=>e=.returned (.int .i64 (if k=7 then(if n=3 then 2 else 1)else 3))∧Below w.heap.size w w':=by
 have T:=Hh (Env.start w);have H0:=Hh h0;have H1:=Hh h1;clear h0 h1 hvl;by_cases hk:k=7
 ·rw[if_pos hk]
  subst hk;by_cases hn:n=3
  ·rw[if_pos hn]
   subst hn;go_enter Tryz.func101,Tryz.ntmps101;go_wp2_with((with_reducible refine Zd 1 ?_);refine Zo T.out 54 _ vs rfl rfl rfl ?_;intro wn g tn;have T:=Hh tn;clear tn;have c0:wn.cell? ⟨g,0,none⟩=some (.int .i64 7):=(T.out.get 0 rfl).nthQ 0 H0.out;have c1:wn.cell? ⟨g,1,none⟩=some (.int .i64 3):=(T.out.get 0 rfl).nthQ 1 H1.out)
   go_ret;exact⟨rfl,T.out.below⟩
  ·rw[if_neg hn]
   have hb:(n == 3)=false:=by rw[beq_eq_false_iff_ne];exact hn
   go_enter Tryz.func101,Tryz.ntmps101;go_wp2_with((with_reducible refine Zd 1 ?_);refine Zo T.out 54 _ vs rfl rfl rfl ?_;intro wn g tn;have T:=Hh tn;clear tn;have c0:wn.cell? ⟨g,0,none⟩=some (.int .i64 7):=(T.out.get 0 rfl).nthQ 0 H0.out;have c1:wn.cell? ⟨g,1,none⟩=some (.int .i64 n):=(T.out.get 0 rfl).nthQ 1 H1.out)
   go_ret;exact⟨rfl,T.out.below⟩
 ·rw[if_neg hk]
  have hb:(k != 7)=true:=by simpa using hk
  have hb2:(k == 7)=false:=by rw[beq_eq_false_iff_ne];exact hk
  go_enter Tryz.func101,Tryz.ntmps101;go_wp2_with((with_reducible refine Zd 1 ?_);refine Zo T.out 54 _ vs rfl rfl rfl ?_;intro wn g tn;have T:=Hh tn;clear tn;have c0:wn.cell? ⟨g,0,none⟩=some (.int .i64 k):=(T.out.get 0 rfl).nthQ 0 H0.out;have c1:wn.cell? ⟨g,1,none⟩=some (.int .i64 n):=(T.out.get 0 rfl).nthQ 1 H1.out)
  go_ret;exact⟨rfl,T.out.below⟩
theorem ex_vals{N:Nat→Prop}{w:World}:∀{x:Ex}{vs:List Value},Zn N w x.ds vs→vs.length=12∧∃ k n,vs[0]?=some (.int .i64 k)∧vs[1]?=some (.int .i64 n)∧((∃ a b c d e,x=.leaf k a b c d e)∨(k=7∧∃ l r,x=.bin n l r))
 |.leaf k n s sd tk tl,vs,h=>by
  have hl:=h.len;rw[Ex.ds_len]at hl;obtain⟨_,rfl,_,rfl,h⟩:=h;exact⟨hl,k,n,rfl,rfl,.inl ⟨n,s,sd,tk,tl,rfl⟩⟩
 |.bin op l r,vs,h=>by
  have hl:=h.len;rw[Ex.ds_len]at hl;obtain⟨_,rfl,_,rfl,h⟩:=h;exact⟨hl,7,op,rfl,rfl,.inr ⟨rfl,l,r,rfl⟩⟩
theorem leaf_kind{k n:Int}{s:Se}{sd tk tl:Int}(hv:VLeaf k n s sd tk tl):k≠7:=by rcases hv with h | h | h | h | h<;>omega
theorem Zlc{N:Nat→Prop}{w0:World}(x:Ex)(hv:VEx x)(vs:List Value)(hd:Zn N w0 x.ds vs)(w:World) :
  Calls Tryz.prog 101 #[.agg vs.toArray] w fun e w'=>e=.returned (.int .i64 (Zcy x))∧Below w.heap.size w w':=by
 obtain⟨hl,k,n,h0,h1,hx⟩:=ex_vals hd;have h:=tight_raw k n vs hl h0 h1 w;rcases hx with⟨a,s,c,d,e,rfl⟩ | ⟨rfl,l,r,rfl⟩
 ·rw[if_neg (leaf_kind hv)]at h;exact h
 ·rw[if_pos rfl]at h;exact h
theorem PE.boxed{w0 x:World}{b:Nat}{st:List Int×Bool}{own:List Bk}(h:PE w0 b st own x)(t:TypeId)(u:Value):PE w0 b st ((x.heap.size,t,[u])::own) (x.alloc (.cells #[u] t)):=h.box t [u]
section
variable {w0 x:World} {b:Nat} {st:List Int×Bool} {own:List Bk} {P:Program} {ops:Array Oper} {rest:List Oper} {o:Oper} {a:Act} {Q:Exit→Act→World→Prop}
theorem wpList_boxP1(h:PE w0 b st own x)(t:TypeId)(v:Operand)(u:Value)(hg:o.guard=none)(ho:o.op=.box t v)(hv:a.eval v=u)(hu:u.cells=#[u])
  (hn:∀ y g,PE w0 b st ((g,t,[u])::own) y→wpList P ops Q rest (a.put o.dst (.pointer (some ⟨g,0,none⟩))) y):wpList P ops Q (o::rest) a x:=
 wpList_boxTo hg t v ho o.dst rfl x.heap.size rfl #[u] (by rw[hv];exact hu) (hn _ _ (h.boxed t u))
theorem wpList_storeP1(h:PE w0 b st own x)(i:Nat)(T:TypeId)(p v:Operand)(t:TypeId)(g:Nat)(old u:Value)(hi0:own[i]?=some (g,t,[old]))(hi:(P.info? T).map (·.size)=some 1)(h1:u.oneCell'=true)
  (hgd:o.guard=none)(ho:o.op=.store T p v)(hd:o.dst=none)(hx:a.eval p=.pointer (some ⟨g,0,none⟩))(hy:a.eval v=u)
  (hn:∀ y,PE w0 b st (own.set i (g,t,[u])) y→wpList P ops Q rest a y):wpList P ops Q (o::rest) a x:=
 Zj T p v t g 0 [] old u [] (by simpa using h.get i hi0) rfl hi h1 hgd ho hd hx hy fun w' p=>hn w' (h.put i hi0 (by simpa using p))
end
theorem qsize_int:(Tryz.prog.info? 3).map (·.size)=some 1:=by kernel_rfl
theorem qz_int:(Tryz.prog.info? 3).map (fun i=>i.zero.map Value.cells)=some (some ([.int .i64 0]:List Value).toArray):=by kernel_rfl
theorem qz_ex:(Tryz.prog.info? 54).map (fun i=>i.zero.map Value.cells)=some (some ([.int .i64 0,.int .i64 0,.int .i64 0,.int .i64 0,.int .i64 0,.int .i64 0,.slice none 0 0,.int .i64 0,.int .i64 0,.int .i64 0,.int .i64 0,.slice none 0 0]:List Value).toArray):=by kernel_rfl
theorem pOpd_A(w0:World)(vs:List Value)(hvl:vs.length=12)(whole tau:Int)(first:Bool)(h1:whole<tau)(K:List ByteArray)(hx:Zbq w0 45 (.agg vs.toArray) K)
  (ht:∀ x,Calls Tryz.prog 101 #[.agg vs.toArray] x fun e w'=>e=.returned (.int .i64 tau)∧Below x.heap.size x w')(b:Nat)(st:List Int×Bool)(own:List Bk)(x:World)(h:PE w0 b st own x)(gw gp iw ip:Nat)(t1 t2:TypeId)
  (hw:own[iw]?=some (gw,t1,[.int .i64 whole]))(hp:own[ip]?=some (gp,t2,[.pointer (some ⟨b,0,none⟩)]))(hr:Vg st (K)) :
  Calls Tryz.prog 102 #[.agg vs.toArray,.bool first,.pointer (some ⟨gw,0,none⟩),.pointer (some ⟨gp,0,none⟩)] x (Zia w0 b (Yq st (K)) own):=by
 obtain⟨s1,E1⟩:∃ s,s=Yq st (K):=⟨_,rfl⟩
 have R1:=Hh hr;clear hr;have EK:Yq st ((K))=s1:=by simp only[Wh,E1]
 rw[EK];clear EK;have P2:=Hh (hx.at_ (b:=b) E1 R1.out);have HE1:=Hh E1;clear E1;have T:=Hh h;have HT:=Hh ht;have HVL:=Hh hvl;have HWi:=Hh hw;have HPi:=Hh hp;clear h hx ht hvl hw hp;have d1:decide (whole<tau)=true:=decide_eq_true h1;cases first
 all_goals
  go_enter Tryz.func102,Tryz.ntmps102;go_wp2_with(first
 |((with_reducible refine Zd 4 ?_);refine Wm T.out 54 _ vs rfl rfl rfl ?_;intro wn g tn;have T:=Hh tn;clear tn;have cw:wn.cell? ⟨gw,0,none⟩=some (.int .i64 whole):=(T.out.get (iw+1) (by simpa using HWi.out)).read 0;have cp:wn.cell? ⟨gp,0,none⟩=some (.pointer (some ⟨b,0,none⟩)):=(T.out.get (ip+1) (by simpa using HPi.out)).read 0)
 |((with_reducible refine Zd 7 ?_);refine Zb 54 _ 54 g vs (T.out.get 0 rfl) Ua (by rw[HVL.out];exact Wq) rfl rfl rfl ?_)
 |((with_reducible refine Zd 21 ?_);refine Zb 54 _ 54 g vs (T.out.get 0 rfl) Ua (by rw[HVL.out];exact Wq) rfl rfl rfl ?_)
 |((with_reducible refine Zd 27 ?_);refine Zb 54 _ 54 g vs (T.out.get 0 rfl) Ua (by rw[HVL.out];exact Wq) rfl rfl rfl ?_)
 |(go_at_call 101;refine(HT.out _).mono ?_;rintro e wn ⟨rfl,bn⟩;have T:=Hh (T.out.call bn);clear bn;have cw:wn.cell? ⟨gw,0,none⟩=some (.int .i64 whole):=(T.out.get (iw+1) (by simpa using HWi.out)).read 0;have cp:wn.cell? ⟨gp,0,none⟩=some (.pointer (some ⟨b,0,none⟩)):=(T.out.get (ip+1) (by simpa using HPi.out)).read 0)
 |(go_at_call 45;refine(P2.out _ _ T.out).mono ?_;rintro e wn ⟨rfl,tn⟩;have T:=Hh tn;clear tn;have cw:wn.cell? ⟨gw,0,none⟩=some (.int .i64 whole):=(T.out.get (iw+1) (by simpa using HWi.out)).read 0;have cp:wn.cell? ⟨gp,0,none⟩=some (.pointer (some ⟨b,0,none⟩)):=(T.out.get (ip+1) (by simpa using HPi.out)).read 0))
  go_end0
  exact⟨rfl,T.out.tail⟩
theorem pOpd_B(w0:World)(vs:List Value)(hvl:vs.length=12)(whole tau:Int)(h1:¬ whole<tau)(h2:tau=whole)(K:List ByteArray)(hx:Zbq w0 45 (.agg vs.toArray) K)
  (ht:∀ x,Calls Tryz.prog 101 #[.agg vs.toArray] x fun e w'=>e=.returned (.int .i64 tau)∧Below x.heap.size x w')(b:Nat)(st:List Int×Bool)(own:List Bk)(x:World)(h:PE w0 b st own x)(gw gp iw ip:Nat)(t1 t2:TypeId)
  (hw:own[iw]?=some (gw,t1,[.int .i64 whole]))(hp:own[ip]?=some (gp,t2,[.pointer (some ⟨b,0,none⟩)]))(hr:Vg st (K)) :
  Calls Tryz.prog 102 #[.agg vs.toArray,.bool true,.pointer (some ⟨gw,0,none⟩),.pointer (some ⟨gp,0,none⟩)] x (Zia w0 b (Yq st (K)) own):=by
 obtain⟨s1,E1⟩:∃ s,s=Yq st (K):=⟨_,rfl⟩
 have R1:=Hh hr;clear hr;have EK:Yq st ((K))=s1:=by simp only[Wh,E1]
 rw[EK];clear EK;have P2:=Hh (hx.at_ (b:=b) E1 R1.out);have HE1:=Hh E1;clear E1;have T:=Hh h;have HT:=Hh ht;have HVL:=Hh hvl;have HWi:=Hh hw;have HPi:=Hh hp;clear h hx ht hvl hw hp;have d1:decide (whole<tau)=false:=decide_eq_false h1;have d2:(tau == whole)=true:=by simpa using h2
 subst h2;go_enter Tryz.func102,Tryz.ntmps102;go_wp2_with(first
 |((with_reducible refine Zd 4 ?_);refine Wm T.out 54 _ vs rfl rfl rfl ?_;intro wn g tn;have T:=Hh tn;clear tn;have cw:wn.cell? ⟨gw,0,none⟩=some (.int .i64 tau):=(T.out.get (iw+1) (by simpa using HWi.out)).read 0;have cp:wn.cell? ⟨gp,0,none⟩=some (.pointer (some ⟨b,0,none⟩)):=(T.out.get (ip+1) (by simpa using HPi.out)).read 0)
 |((with_reducible refine Zd 7 ?_);refine Zb 54 _ 54 g vs (T.out.get 0 rfl) Ua (by rw[HVL.out];exact Wq) rfl rfl rfl ?_)
 |((with_reducible refine Zd 21 ?_);refine Zb 54 _ 54 g vs (T.out.get 0 rfl) Ua (by rw[HVL.out];exact Wq) rfl rfl rfl ?_)
 |((with_reducible refine Zd 27 ?_);refine Zb 54 _ 54 g vs (T.out.get 0 rfl) Ua (by rw[HVL.out];exact Wq) rfl rfl rfl ?_)
 |(go_at_call 101;refine(HT.out _).mono ?_;rintro e wn ⟨rfl,bn⟩;have T:=Hh (T.out.call bn);clear bn;have cw:wn.cell? ⟨gw,0,none⟩=some (.int .i64 tau):=(T.out.get (iw+1) (by simpa using HWi.out)).read 0;have cp:wn.cell? ⟨gp,0,none⟩=some (.pointer (some ⟨b,0,none⟩)):=(T.out.get (ip+1) (by simpa using HPi.out)).read 0)
 |(go_at_call 45;refine(P2.out _ _ T.out).mono ?_;rintro e wn ⟨rfl,tn⟩;have T:=Hh tn;clear tn;have cw:wn.cell? ⟨gw,0,none⟩=some (.int .i64 tau):=(T.out.get (iw+1) (by simpa using HWi.out)).read 0;have cp:wn.cell? ⟨gp,0,none⟩=some (.pointer (some ⟨b,0,none⟩)):=(T.out.get (ip+1) (by simpa using HPi.out)).read 0))
 go_end0
 exact⟨rfl,T.out.tail⟩
theorem pOpd_C(w0:World)(vs:List Value)(hvl:vs.length=12)(whole tau:Int)(h1:¬ whole<tau)(h2:tau≠whole)(K:List ByteArray)(hx:Zbq w0 45 (.agg vs.toArray) K)
  (ht:∀ x,Calls Tryz.prog 101 #[.agg vs.toArray] x fun e w'=>e=.returned (.int .i64 tau)∧Below x.heap.size x w')(b:Nat)(st:List Int×Bool)(own:List Bk)(x:World)(h:PE w0 b st own x)(gw gp iw ip:Nat)(t1 t2:TypeId)
  (hw:own[iw]?=some (gw,t1,[.int .i64 whole]))(hp:own[ip]?=some (gp,t2,[.pointer (some ⟨b,0,none⟩)]))(hr:Vg st ([Wn]++(K++[Va]))) :
  Calls Tryz.prog 102 #[.agg vs.toArray,.bool true,.pointer (some ⟨gw,0,none⟩),.pointer (some ⟨gp,0,none⟩)] x (Zia w0 b (Yq st ([Wn]++(K++[Va]))) own):=by
 obtain⟨s1,E1⟩:∃ s,s=Yq st ([Wn]):=⟨_,rfl⟩
 have R1:=Hh (Vg.first hr);replace hr:=Vg.next hr;rw[←E1]at hr;obtain⟨s2,E2⟩:∃ s,s=Yq s1 (K):=⟨_,rfl⟩
 have R2:=Hh (Vg.first hr);replace hr:=Vg.next hr;rw[←E2]at hr;obtain⟨s3,E3⟩:∃ s,s=Yq s2 ([Va]):=⟨_,rfl⟩
 have R3:=Hh hr;clear hr;have EK:Yq st (([Wn])++((K)++(([Va]))))=s3:=by simp only[Wh,E1,E2,E3]
 rw[EK];clear EK;have P1:=Hh (fun own x=>Jk (w0:=w0) (b:=b) E1 R1.out (by simp) own x);have P2:=Hh (hx.at_ (b:=b) E2 R2.out);have P3:=Hh (fun own x=>Jk (w0:=w0) (b:=b) E3 R3.out (by simp) own x);have HE1:=Hh E1;clear E1;have HE2:=Hh E2;clear E2;have HE3:=Hh E3;clear E3;have T:=Hh h;have HT:=Hh ht;have HVL:=Hh hvl;have HWi:=Hh hw;have HPi:=Hh hp;clear h hx ht hvl hw hp;have d1:decide (whole<tau)=false:=decide_eq_false h1;have d2:(tau == whole)=false:=by simpa using h2
 go_enter Tryz.func102,Tryz.ntmps102;go_wp2_with(first
 |((with_reducible refine Zd 4 ?_);refine Wm T.out 54 _ vs rfl rfl rfl ?_;intro wn g tn;have T:=Hh tn;clear tn;have cw:wn.cell? ⟨gw,0,none⟩=some (.int .i64 whole):=(T.out.get (iw+1) (by simpa using HWi.out)).read 0;have cp:wn.cell? ⟨gp,0,none⟩=some (.pointer (some ⟨b,0,none⟩)):=(T.out.get (ip+1) (by simpa using HPi.out)).read 0)
 |((with_reducible refine Zd 7 ?_);refine Zb 54 _ 54 g vs (T.out.get 0 rfl) Ua (by rw[HVL.out];exact Wq) rfl rfl rfl ?_)
 |((with_reducible refine Zd 21 ?_);refine Zb 54 _ 54 g vs (T.out.get 0 rfl) Ua (by rw[HVL.out];exact Wq) rfl rfl rfl ?_)
 |((with_reducible refine Zd 27 ?_);refine Zb 54 _ 54 g vs (T.out.get 0 rfl) Ua (by rw[HVL.out];exact Wq) rfl rfl rfl ?_)
 |(go_at_call 101;refine(HT.out _).mono ?_;rintro e wn ⟨rfl,bn⟩;have T:=Hh (T.out.call bn);clear bn;have cw:wn.cell? ⟨gw,0,none⟩=some (.int .i64 whole):=(T.out.get (iw+1) (by simpa using HWi.out)).read 0;have cp:wn.cell? ⟨gp,0,none⟩=some (.pointer (some ⟨b,0,none⟩)):=(T.out.get (ip+1) (by simpa using HPi.out)).read 0)
 |(go_at_call 56;refine(P1.out _ _ _ _ _ T.out rfl rfl).mono ?_;rintro e wn ⟨rfl,tn⟩;have T:=Hh tn;clear tn;have cw:wn.cell? ⟨gw,0,none⟩=some (.int .i64 whole):=(T.out.get (iw+1) (by simpa using HWi.out)).read 0;have cp:wn.cell? ⟨gp,0,none⟩=some (.pointer (some ⟨b,0,none⟩)):=(T.out.get (ip+1) (by simpa using HPi.out)).read 0)
 |(go_at_call 56;refine(P3.out _ _ _ _ _ T.out rfl rfl).mono ?_;rintro e wn ⟨rfl,tn⟩;have T:=Hh tn;clear tn;have cw:wn.cell? ⟨gw,0,none⟩=some (.int .i64 whole):=(T.out.get (iw+1) (by simpa using HWi.out)).read 0;have cp:wn.cell? ⟨gp,0,none⟩=some (.pointer (some ⟨b,0,none⟩)):=(T.out.get (ip+1) (by simpa using HPi.out)).read 0)
 |(go_at_call 45;refine(P2.out _ _ T.out).mono ?_;rintro e wn ⟨rfl,tn⟩;have T:=Hh tn;clear tn;have cw:wn.cell? ⟨gw,0,none⟩=some (.int .i64 whole):=(T.out.get (iw+1) (by simpa using HWi.out)).read 0;have cp:wn.cell? ⟨gp,0,none⟩=some (.pointer (some ⟨b,0,none⟩)):=(T.out.get (ip+1) (by simpa using HPi.out)).read 0))
 go_end0
 exact⟨rfl,T.out.tail⟩
theorem pOpd_D(w0:World)(vs:List Value)(hvl:vs.length=12)(whole tau:Int)(h1:¬ whole<tau)(K:List ByteArray)(hx:Zbq w0 45 (.agg vs.toArray) K)
  (ht:∀ x,Calls Tryz.prog 101 #[.agg vs.toArray] x fun e w'=>e=.returned (.int .i64 tau)∧Below x.heap.size x w')(b:Nat)(st:List Int×Bool)(own:List Bk)(x:World)(h:PE w0 b st own x)(gw gp iw ip:Nat)(t1 t2:TypeId)
  (hw:own[iw]?=some (gw,t1,[.int .i64 whole]))(hp:own[ip]?=some (gp,t2,[.pointer (some ⟨b,0,none⟩)]))(hr:Vg st ([Wn]++(K++[Va]))) :
  Calls Tryz.prog 102 #[.agg vs.toArray,.bool false,.pointer (some ⟨gw,0,none⟩),.pointer (some ⟨gp,0,none⟩)] x (Zia w0 b (Yq st ([Wn]++(K++[Va]))) own):=by
 obtain⟨s1,E1⟩:∃ s,s=Yq st ([Wn]):=⟨_,rfl⟩
 have R1:=Hh (Vg.first hr);replace hr:=Vg.next hr;rw[←E1]at hr;obtain⟨s2,E2⟩:∃ s,s=Yq s1 (K):=⟨_,rfl⟩
 have R2:=Hh (Vg.first hr);replace hr:=Vg.next hr;rw[←E2]at hr;obtain⟨s3,E3⟩:∃ s,s=Yq s2 ([Va]):=⟨_,rfl⟩
 have R3:=Hh hr;clear hr;have EK:Yq st (([Wn])++((K)++(([Va]))))=s3:=by simp only[Wh,E1,E2,E3]
 rw[EK];clear EK;have P1:=Hh (fun own x=>Jk (w0:=w0) (b:=b) E1 R1.out (by simp) own x);have P2:=Hh (hx.at_ (b:=b) E2 R2.out);have P3:=Hh (fun own x=>Jk (w0:=w0) (b:=b) E3 R3.out (by simp) own x);have HE1:=Hh E1;clear E1;have HE2:=Hh E2;clear E2;have HE3:=Hh E3;clear E3;have T:=Hh h;have HT:=Hh ht;have HVL:=Hh hvl;have HWi:=Hh hw;have HPi:=Hh hp;clear h hx ht hvl hw hp;have d1:decide (whole<tau)=false:=decide_eq_false h1;go_enter Tryz.func102,Tryz.ntmps102;go_wp2_with(first
 |((with_reducible refine Zd 4 ?_);refine Wm T.out 54 _ vs rfl rfl rfl ?_;intro wn g tn;have T:=Hh tn;clear tn;have cw:wn.cell? ⟨gw,0,none⟩=some (.int .i64 whole):=(T.out.get (iw+1) (by simpa using HWi.out)).read 0;have cp:wn.cell? ⟨gp,0,none⟩=some (.pointer (some ⟨b,0,none⟩)):=(T.out.get (ip+1) (by simpa using HPi.out)).read 0)
 |((with_reducible refine Zd 7 ?_);refine Zb 54 _ 54 g vs (T.out.get 0 rfl) Ua (by rw[HVL.out];exact Wq) rfl rfl rfl ?_)
 |((with_reducible refine Zd 21 ?_);refine Zb 54 _ 54 g vs (T.out.get 0 rfl) Ua (by rw[HVL.out];exact Wq) rfl rfl rfl ?_)
 |((with_reducible refine Zd 27 ?_);refine Zb 54 _ 54 g vs (T.out.get 0 rfl) Ua (by rw[HVL.out];exact Wq) rfl rfl rfl ?_)
 |(go_at_call 101;refine(HT.out _).mono ?_;rintro e wn ⟨rfl,bn⟩;have T:=Hh (T.out.call bn);clear bn;have cw:wn.cell? ⟨gw,0,none⟩=some (.int .i64 whole):=(T.out.get (iw+1) (by simpa using HWi.out)).read 0;have cp:wn.cell? ⟨gp,0,none⟩=some (.pointer (some ⟨b,0,none⟩)):=(T.out.get (ip+1) (by simpa using HPi.out)).read 0)
 |(go_at_call 56;refine(P1.out _ _ _ _ _ T.out rfl rfl).mono ?_;rintro e wn ⟨rfl,tn⟩;have T:=Hh tn;clear tn;have cw:wn.cell? ⟨gw,0,none⟩=some (.int .i64 whole):=(T.out.get (iw+1) (by simpa using HWi.out)).read 0;have cp:wn.cell? ⟨gp,0,none⟩=some (.pointer (some ⟨b,0,none⟩)):=(T.out.get (ip+1) (by simpa using HPi.out)).read 0)
 |(go_at_call 56;refine(P3.out _ _ _ _ _ T.out rfl rfl).mono ?_;rintro e wn ⟨rfl,tn⟩;have T:=Hh tn;clear tn;have cw:wn.cell? ⟨gw,0,none⟩=some (.int .i64 whole):=(T.out.get (iw+1) (by simpa using HWi.out)).read 0;have cp:wn.cell? ⟨gp,0,none⟩=some (.pointer (some ⟨b,0,none⟩)):=(T.out.get (ip+1) (by simpa using HPi.out)).read 0)
 |(go_at_call 45;refine(P2.out _ _ T.out).mono ?_;rintro e wn ⟨rfl,tn⟩;have T:=Hh tn;clear tn;have cw:wn.cell? ⟨gw,0,none⟩=some (.int .i64 whole):=(T.out.get (iw+1) (by simpa using HWi.out)).read 0;have cp:wn.cell? ⟨gp,0,none⟩=some (.pointer (some ⟨b,0,none⟩)):=(T.out.get (ip+1) (by simpa using HPi.out)).read 0))
 go_end0
 exact⟨rfl,T.out.tail⟩
theorem pOpd(w0:World)(vs:List Value)(hvl:vs.length=12)(whole tau:Int)(first:Bool)(K:List ByteArray)(hx:Zbq w0 45 (.agg vs.toArray) K)
  (ht:∀ x,Calls Tryz.prog 101 #[.agg vs.toArray] x fun e w'=>e=.returned (.int .i64 tau)∧Below x.heap.size x w')(b:Nat){s1 s2:List Int×Bool}(he:s2=Yq s1 (kB (brB whole tau first) K))(hr:Vg s1 (kB (brB whole tau first) K))(own:List Bk)(x:World)(h:PE w0 b s1 own x)(gw gp iw ip:Nat)(t1 t2:TypeId)
  (hw:own[iw]?=some (gw,t1,[.int .i64 whole]))(hp:own[ip]?=some (gp,t2,[.pointer (some ⟨b,0,none⟩)])) :
  Calls Tryz.prog 102 #[.agg vs.toArray,.bool first,.pointer (some ⟨gw,0,none⟩),.pointer (some ⟨gp,0,none⟩)] x (Zia w0 b s2 own):=by
 subst he;unfold kB brB at hr ⊢;by_cases h1:whole<tau
 ·rw[if_neg (by simp[h1])]at hr ⊢
  exact pOpd_A w0 vs hvl whole tau first h1 K hx ht b s1 own x h gw gp iw ip t1 t2 hw hp hr
 ·cases first
  ·rw[if_pos (by simp[h1])]at hr ⊢
   exact pOpd_D w0 vs hvl whole tau h1 K hx ht b s1 own x h gw gp iw ip t1 t2 hw hp hr
  ·by_cases h2:tau=whole
   ·rw[if_neg (by simp[h2])]at hr ⊢
    exact pOpd_B w0 vs hvl whole tau h1 h2 K hx ht b s1 own x h gw gp iw ip t1 t2 hw hp hr
   ·rw[if_pos (by simp[h1,h2])]at hr ⊢
    exact pOpd_C w0 vs hvl whole tau h1 h2 K hx ht b s1 own x h gw gp iw ip t1 t2 hw hp hr
end Go.Proofs.YtdngkgickbaboaaGreat
