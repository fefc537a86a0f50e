/-
  No conditions but those that each theorem names.
-/
import Derived.Lib.Builder
import Derived.Lib.UnsafeStr
import Derived.Lib.Hide
import Derived.IntWalk
import Derived.Deep.RegionWith
import Derived.Deep.DeepCutAuto
import Derived.Deep.RegionHeld3
import Derived.StillTailTactics
import Derived.Great.Walk
import Derived.Deep.QuietTactic
import Derived.BigQuiet
import Derived.RegionTactic
import Derived.Test.YtljdgdphldckhaaGreatQV27
set_option maxRecDepth 20000
set_option maxHeartbeats 12800000
namespace Go.Proofs.YtljdgdphldckhaaGreat
open Go.ChangeShapes Go.WideShapes Go.ChangeAt Go.RowKit
set_option linter.unusedVariables false
set_option linter.unusedSimpArgs false
def Zgg(nk:Int)(s:ByteArray):Fi×St:=Wd nk (Ut s) (Zcy s) (Zas s)
def parseF(nk:Int)(s:ByteArray):Fi×(Int×Nat×Nat):=(if(Zai (Ut s) (Zgg nk s).2).good=true then(Zgg nk s).1 else⟨[],[]⟩,Zfy (Zai (Ut s) (Zgg nk s).2))
theorem text_rem(s:ByteArray):Zk (Ut s) (Zas s)≤(Ut s).length:=by
 unfold Zas;split
 ·exact Nat.sub_le _ _
 ·exact Nat.zero_le _
theorem text_len(s:ByteArray)(h:s.size≤65536):(Ut s).length≤65537:=by
 unfold Ut;rcases text_cases s h with⟨E,l,c,hv,_⟩ | ⟨L,hv,_,hl⟩
 ·rw[hv];exact Nat.zero_le _
 ·rw[hv];show L.length≤65537;omega
def TopPost(w:World)(ds:Ds)(F:Int×Nat×Nat)(e:Ending)(w':World):Prop:=
 ∃ vs:List Value,e=.returned (.tuple #[.agg vs.toArray,Zi F])∧Deep (fun k=>w.heap.size≤k) w' ds vs∧Below w.heap.size w w'
theorem Zej{B:Nat}{w x y:World}{q c r K:Nat}{L:List TokV}{st:St}(h:Below B w x)(m:Yc x y q c r K L st)(hq:B≤q)(hc:B≤c)(hx:B≤x.heap.size):Below B w y:=
 h.trans (m.keeps.below hx fun k hk=>by omega)
theorem Zfw{B:Nat}{w x y:World}{g:Nat}{t:TypeId}{vs:List Value}(h:Below B w x)(p:Put x y g t vs)(hg:B≤g)(hx:B≤x.heap.size):Below B w y:=
 h.trans (p.keeps.below hx fun k hk=>by omega)
theorem two_vals:∀(vs:List Value),vs.length=2→∃ a b,vs=[a,b]
 |[a,b],_=>⟨a,b,rfl⟩
theorem bthen2{B:Nat}{w x y:World}(h:Below B w x)(k:Below x.heap.size x y)(hB:B≤x.heap.size):Below B w y:=h.trans (k.mono hB)
theorem xParse(s:ByteArray)(w:World)(hs:s.size≤65536):Calls Tryz.prog 30 #[.string s] w (TopPost w (parseF 5 s).1.ds (parseF 5 s).2):=by
 have hr:=text_rem s;have hl:=text_len s hs;have hbe:∀ w,Calls Tryz.prog 83 #[.string s] w (Zjc w s):=fun w=>xbegin s w hs
 have hsub:∀ w q c r K,PAt w q c r K (Ut s) (Zas s)→Calls Tryz.prog 85 #[.pointer (some ⟨q,0,none⟩)] w (Zz w q c r K (Ut s) (Zgg 5 s).2 (Zgg 5 s).1.ds):=fun w q c r K h=>by
  have hN:Zcy s=8*(Ut s).length+20:=rfl;exact xfile (Zcy s) w q c r K _ _ h (by omega) (by omega)
 unfold Zjc at hbe;unfold parseF;generalize Zgg 5 s=o at *;generalize Ut s=L at *;generalize Zas s=st at *;clear hr hl hs;have n1:=Za w (.cells #[.slice none 0 0,.slice none 0 0] 26);have n2:=Za (w.alloc (.cells #[.slice none 0 0,.slice none 0 0] 26)) (.cells #[.int .i64 0,.int .i64 0,.int .i64 0] 29);have R0:=Hh ((show Zb _ w.heap.size 26 ([.slice none 0 0,.slice none 0 0]).toArray from Zb.made w 26 #[.slice none 0 0,.slice none 0 0]).alloc (.cells #[.int .i64 0,.int .i64 0,.int .i64 0] 29));have F0:=Hh (show Zb ((w.alloc (.cells #[.slice none 0 0,.slice none 0 0] 26)).alloc (.cells #[.int .i64 0,.int .i64 0,.int .i64 0] 29)) (w.heap.size+1) 29 ([.int .i64 0,.int .i64 0,.int .i64 0]:List Value).toArray from by have e:=Zb.made (w.alloc (.cells #[.slice none 0 0,.slice none 0 0] 26)) 29 #[.int .i64 0,.int .i64 0,.int .i64 0];rw[World.size_alloc]at e;exact e);have B0:=Hh (Xq n1 n2);have hz0:((w.alloc (.cells #[.slice none 0 0,.slice none 0 0] 26)).alloc (.cells #[.int .i64 0,.int .i64 0,.int .i64 0] 29)).heap.size=w.heap.size+2:=by simp
 cases hg:(Zai L o.2).good
 ·rw[if_neg (by decide)]
  go_enter Tryz.func30,Tryz.ntmps30;go_wp2_with(first
 |(go_at_call 83;refine(hbe _).mono ?_;rintro e w1 ⟨q,c,r,K,rfl,hp,hq,hc,b1⟩
   rw[hz0]at hq hc;have hz1:w.heap.size+2≤w1.heap.size:=by have:=b1.size;rw[hz0]at this;exact this
   have R1:=Hh (R0.out.below b1 R0.out.inside);have F1:=Hh (F0.out.below b1 F0.out.inside);have B1:=Hh (bthen2 B0.out b1 (by rw[hz0];omega));have hq2:=hp.whole.inside;have hc2:=hp.cin;have P1:=Hh hp;clear hp b1)
 |(go_at_call 85;refine(hsub _ q c r K P1.out).mono ?_;rintro e w2 ⟨vs,rfl,d2,m2⟩
   obtain⟨va,vb,rfl⟩:=two_vals vs d2.len;have R2:=Hh (m2.keeps.whole R1.out (by omega));have F2:=Hh (m2.keeps.whole F1.out (by omega));have B2:=Hh (Zej B1.out m2 (by omega) (by omega) (by omega));have P2:=Hh m2.at_;have hz2:w1.heap.size≤w2.heap.size:=m2.keeps.size;have D2:=Hh d2;clear m2 d2)
 |(go_at_call 84;refine(xfinF _ q c r K L o.2 va vb D2.out.one P2.out).mono ?_;rintro e w3 ⟨e3,m3⟩
   rw[hg]at e3;rw[if_neg (by decide)]at e3;obtain rfl:=e3;have R3:=Hh (m3.keeps.whole R2.out (by omega));have F3:=Hh (m3.keeps.whole F2.out (by omega));have B3:=Hh (Zej B2.out m3 (by omega) (by omega) (by omega));have hz3:w2.heap.size≤w3.heap.size:=m3.keeps.size;have D3:=Hh (D2.out.move m3 hq2 hc2);simp only[Zi];clear m3)
 |((with_reducible refine at_st 2 11 ?_);refine wpList_storeW 26 _ _ 26 w.heap.size _ [.slice none 0 0,.slice none 0 0] R3.out rfl Up (by simp[Value.oneCell']) rfl rfl rfl rfl rfl ?_
   intro w4 p4;have R4:=Hh p4.whole;have F4:=Hh (p4.keeps.whole F3.out (by omega));have B4:=Hh (Zfw B3.out p4 (Nat.le_refl _) (by omega));have D4:=Hh (D3.out.put p4 (by omega));have hz4:w3.heap.size≤w4.heap.size:=p4.keeps.size;clear p4)
 |((with_reducible refine at_st 3 12 ?_);refine wpList_storeW 29 _ _ 29 (w.heap.size+1) _ [.int .i64 (Zfy (Zai L o.2)).1,.int .i64 ((Zfy (Zai L o.2)).2.1:Int),.int .i64 ((Zfy (Zai L o.2)).2.2:Int)] F4.out rfl Zci (by simp[Value.oneCell']) rfl rfl rfl rfl rfl ?_
   intro w5 p5;have F5:=Hh p5.whole;have R5:=Hh (p5.keeps.whole R4.out (by omega));have B5:=Hh (Zfw B4.out p5 (by omega) (by omega));have D5:=Hh (D4.out.put p5 (by omega));clear p5))
  exact Zdn 2 26 3 29 26 29 _ _ _ _ rfl R5.out F5.out Zeu Up row_fa Zci rfl rfl rfl ⟨_,rfl,(show Deep _ _ (Fi.mk [] []).ds _ from⟨none,0,[],_,rfl,⟨Nat.zero_le _,Nat.le_refl _⟩,.inl rfl,rfl,none,0,[],_,rfl,⟨Nat.zero_le _,Nat.le_refl _⟩,.inl rfl,rfl,rfl⟩),B5.out⟩
 ·rw[if_pos rfl]
  go_enter Tryz.func30,Tryz.ntmps30;go_wp2_with(first
 |(go_at_call 83;refine(hbe _).mono ?_;rintro e w1 ⟨q,c,r,K,rfl,hp,hq,hc,b1⟩
   rw[hz0]at hq hc;have hz1:w.heap.size+2≤w1.heap.size:=by have:=b1.size;rw[hz0]at this;exact this
   have R1:=Hh (R0.out.below b1 R0.out.inside);have F1:=Hh (F0.out.below b1 F0.out.inside);have B1:=Hh (bthen2 B0.out b1 (by rw[hz0];omega));have hq2:=hp.whole.inside;have hc2:=hp.cin;have P1:=Hh hp;clear hp b1)
 |(go_at_call 85;refine(hsub _ q c r K P1.out).mono ?_;rintro e w2 ⟨vs,rfl,d2,m2⟩
   obtain⟨va,vb,rfl⟩:=two_vals vs d2.len;have R2:=Hh (m2.keeps.whole R1.out (by omega));have F2:=Hh (m2.keeps.whole F1.out (by omega));have B2:=Hh (Zej B1.out m2 (by omega) (by omega) (by omega));have P2:=Hh m2.at_;have hz2:w1.heap.size≤w2.heap.size:=m2.keeps.size;have D2:=Hh d2;clear m2 d2)
 |(go_at_call 84;refine(xfinF _ q c r K L o.2 va vb D2.out.one P2.out).mono ?_;rintro e w3 ⟨e3,m3⟩
   rw[hg]at e3;rw[if_pos rfl]at e3;obtain rfl:=e3;have R3:=Hh (m3.keeps.whole R2.out (by omega));have F3:=Hh (m3.keeps.whole F2.out (by omega));have B3:=Hh (Zej B2.out m3 (by omega) (by omega) (by omega));have hz3:w2.heap.size≤w3.heap.size:=m3.keeps.size;have D3:=Hh (D2.out.move m3 hq2 hc2);simp only[Zi];clear m3)
 |((with_reducible refine at_st 2 11 ?_);refine wpList_storeW 26 _ _ 26 w.heap.size _ [va,vb] R3.out rfl Up D2.out.one rfl rfl rfl rfl rfl ?_
   intro w4 p4;have R4:=Hh p4.whole;have F4:=Hh (p4.keeps.whole F3.out (by omega));have B4:=Hh (Zfw B3.out p4 (Nat.le_refl _) (by omega));have D4:=Hh (D3.out.put p4 (by omega));have hz4:w3.heap.size≤w4.heap.size:=p4.keeps.size;clear p4)
 |((with_reducible refine at_st 3 12 ?_);refine wpList_storeW 29 _ _ 29 (w.heap.size+1) _ [.int .i64 (Zfy (Zai L o.2)).1,.int .i64 ((Zfy (Zai L o.2)).2.1:Int),.int .i64 ((Zfy (Zai L o.2)).2.2:Int)] F4.out rfl Zci (by simp[Value.oneCell']) rfl rfl rfl rfl rfl ?_
   intro w5 p5;have F5:=Hh p5.whole;have R5:=Hh (p5.keeps.whole R4.out (by omega));have B5:=Hh (Zfw B4.out p5 (by omega) (by omega));have D5:=Hh (D4.out.put p5 (by omega));clear p5))
  exact Zdn 2 26 3 29 26 29 _ _ _ _ rfl R5.out F5.out Zeu Up row_fa Zci rfl rfl rfl ⟨_,rfl,(D5.out.lower (by omega)),B5.out⟩
open Go
theorem good_row{v:TokV}(h:GoodT v):(v.k=2→0≤v.n∧v.n≤99)∧(v.k=3→Zel v.t):=by
 obtain⟨l,g1,g2,g3,g4,g5,g6,g7⟩:=h;refine⟨fun _=>by rw[g5];exact numOf_bd l,fun hk=>?_⟩;have hk3:(Zs l).1=3:=by rw[←g2];exact hk
 cases l with
 |nil=>simp[Zs]at g1
 |cons c r=>
  have key:(Zs (c::r)).1=3→c=34∧tw (Ys 34) r<r.length∧Zbf (strOfNums (r.take (tw (Ys 34) r)))=true∧Zs (c::r)=(3,1,tw (Ys 34) r+1,tw (Ys 34) r+2):=by
   refine Uh c r (fun x=>x.1=3→c=34∧tw (Ys 34) r<r.length∧Zbf (strOfNums (r.take (tw (Ys 34) r)))=true∧x=(3,1,tw (Ys 34) r+1,tw (Ys 34) r+2)) ?_ ?_ ?_ ?_ ?_ ?_ ?_ ?_
   ·intro _ hh;simp at hh
   ·intro _ _ _ hh;simp at hh
   ·intro _ _ hh;simp at hh
   ·intro _ hh;simp at hh
   ·intro h1 h2 h3 _;exact⟨h1,h2,h3,rfl⟩
   ·intro _ _ hh;simp at hh
   ·intro _ _ _ _ _ hh;simp at hh
   ·intro _ _ _ _ _ hh;simp at hh
  obtain⟨k1,k2,k3,k4⟩:=key hk3;rw[k4]at g3 g4;have e1:((c::r).take (tw (Ys 34) r+1)).drop 1=r.take (tw (Ys 34) r):=by rw[List.take_succ_cons,List.drop_succ_cons,List.drop_zero]
  dsimp only at g3 g4;rw[e1]at g4;unfold txt at g3;rw[if_pos hk,List.take_succ_cons,k1]at g3;have g3':=(List.cons.inj g3).2
  have e2:bL v.t=r.take (tw (Ys 34) r):=by
   have hlen:=congrArg List.length g3';rw[List.length_append,List.length_take,List.length_cons,List.length_nil]at hlen;have hz:(bL v.t).length=tw (Ys 34) r:=by omega
   have:=congrArg (List.take (tw (Ys 34) r)) g3';rw[List.take_append_of_le_length (by omega),List.take_of_length_le (by omega),List.take_take,Nat.min_eq_left (by omega)]at this;exact this
  refine⟨by rw[g4];exact k3,fun x hx=>?_⟩;have hb:=bL_bd v.t x hx;rw[e2]at hx;have:=Zkd (Ys 34) r x hx;rw[Jw]at this;exact⟨hb.1,hb.2,this⟩
theorem Sh.row{L:List TokV}(h:Sh L):∀ a,((Zp L a).k=2→0≤(Zp L a).n∧(Zp L a).n≤99)∧((Zp L a).k=3→Zel (Zp L a).t):=by
 have z:∀ v:TokV,v.k=0→(v.k=2→0≤v.n∧v.n≤99)∧(v.k=3→Zel v.t):=fun v hv=>⟨fun h=>by omega,fun h=>by omega⟩
 induction h with
 |fin v hk ht hn=>
  intro a;cases a with
  |zero=>rw[Zbp];exact z v hk
  |succ a=>exact z _ (by simp[Zp,zTok])
 |tok v L hg hL ih=>
  intro a;cases a with
  |zero=>rw[Zbp];exact good_row hg
  |succ a=>rw[Zfv];exact ih a
theorem Sh.ok{L:List TokV}(h:Sh L):Xz L:=⟨fun a=>(h.row a).1,fun a=>(h.row a).2⟩
theorem text_ok(s:ByteArray)(hs:s.size≤65536):(∃ F,Zas s=.bad F∧Ut s=[])∨(Zas s=.ok 0 0∧Xz (Ut s)):=by
 obtain⟨L,E,p,hc⟩:∃ L E p,Vm s 0 []=(L,E,p):=⟨_,_,_,rfl⟩
 have hf:=Zdu s s.size 0 [] L E p (by omega) (by omega) (Bd.zero s) hc;unfold Zas Ut;rw[Zeq s hs hc];by_cases hE:E=0
 ·obtain⟨L2,h2,h3⟩:=hf.1 hE
  have e:L=L2:=h2;subst e;right;rw[if_pos hE];exact⟨rfl,h3.sh.ok⟩
 ·left
  rw[if_neg hE];exact⟨_,if_neg hE,rfl⟩
theorem over_good{L:List TokV}{st:St}(h:(Zai L st).good=true):st.good=true:=by
 cases st with
 |ok a d=>rfl
 |bad F=>exact h
theorem file_off(nk:Int)(L:List TokV)(n:Nat)(F:Int×Nat×Nat):Wd nk L (n+1) (.bad F)=(⟨[],[]⟩,.bad F):=by
 rw[Wd];rfl
theorem parse_val(nk:Int)(s:ByteArray)(hs:s.size≤65536):VFi (parseF nk s).1:=by
 unfold parseF;dsimp only;by_cases hg:(Zai (Ut s) (Zgg nk s).2).good=true
 ·rw[if_pos hg]
  have h2:=over_good hg;unfold Zgg at h2 ⊢;rcases text_ok s hs with⟨F,e1,e2⟩ | ⟨e1,hr⟩
  ·rw[e1,show Zcy s=(Zcy s - 1)+1 from by unfold Zcy;omega,file_off]at h2
   cases h2
  ·exact(file_val hr (Zcy s) (Zas s) (by have:=text_rem s;unfold Zcy;omega) h2 ⟨0,e1⟩).2
 ·rw[if_neg hg]
  exact⟨(fun c hc=>by cases hc),fun p hp=>by cases hp⟩
open Go Go.RowKit
structure Bldr(T:TypeId)(rest:List Value)(B:Nat)(w:World)(b:Nat)(a v:Value)(bs:List Int):Prop where
 whole:Zb w b T (a::v::rest).toArray
 row:w.ownsRow B 5 1 v bs.length (bs.map (Value.int .u8))
 lo:B≤b
 far:v.ownBlock≠some b
 used:a=.pointer none∨a=.pointer (some ⟨b,0,none⟩)
structure Zbc(b:Nat)(v:Value)(w:World)(v':Value)(w':World):Prop where
 keeps:Keeps (fun k=>k=b∨v.ownBlock=some k) w w'
 fresh:∀ k,v'.ownBlock=some k→v.ownBlock=some k∨w.heap.size≤k
theorem Zbc.refl(b:Nat)(v:Value)(w:World):Zbc b v w v w:=⟨Keeps.refl _ _,fun _ h=>.inl h⟩
theorem Zbc.of_below{b:Nat}{v:Value}{w w':World}(h:Below w.heap.size w w'):Zbc b v w v w':=⟨Keeps.of_below h,fun _ h=>.inl h⟩
theorem Zbc.trans{b:Nat}{v v1 v2:Value}{x y z:World}(h:Zbc b v x v1 y)(k:Zbc b v1 y v2 z):Zbc b v x v2 z:=by
 refine⟨⟨k.keeps.os.trans h.keeps.os,k.keeps.tape.trans h.keeps.tape,k.keeps.output.trans h.keeps.output,Nat.le_trans h.keeps.size k.keeps.size,fun i hi hn=>?_⟩,fun i hi=>?_⟩
 ·refine(k.keeps.block i (Nat.lt_of_lt_of_le hi h.keeps.size) (fun c=>?_)).trans (h.keeps.block i hi hn)
  rcases c with c | c
  ·exact hn (.inl c)
  ·rcases h.fresh i c with e | e
   ·exact hn (.inr e)
   ·omega
 ·rcases k.fresh i hi with e | e
  ·exact h.fresh i e
  ·exact .inr (Nat.le_trans h.keeps.size e)
theorem Bldr.below{T:TypeId}{rest:List Value}{B:Nat}{w w':World}{b:Nat}{a v:Value}{bs:List Int}(h:Bldr T rest B w b a v bs)(hb:Below w.heap.size w w'):Bldr T rest B w' b a v bs:=
 ⟨h.whole.below hb h.whole.inside,Us h.row hb,h.lo,h.far,h.used⟩
def spB(lo:Bool)(t:List Int):Bool:=lo && (decide (t≠[59]) && decide (t≠[41]))
def put1(s:List Int×Bool)(t:List Int):List Int×Bool:=(s.1++(if spB s.2 t then [32]else [])++t,decide (t≠[40]))
def putsF(s:List Int×Bool)(ts:List (List Int)):List Int×Bool:=ts.foldl put1 s
theorem puts_len(ts:List (List Int)):∀ s:List Int×Bool,(putsF s ts).1.length≤s.1.length+(ts.map fun t=>t.length+1).sum:=by
 induction ts with
 |nil=>intro s;simp[putsF]
 |cons t r ih=>
  intro s;have h:=ih (put1 s t);have h2:(put1 s t).1.length≤s.1.length+(t.length+1):=by unfold put1;split<;>simp<;>omega
  simp only[putsF,List.foldl_cons,List.map_cons,List.sum_cons]at h ⊢;omega
def putsB(s:List Int×Bool)(ts:List ByteArray):List Int×Bool:=putsF s (ts.map bL)
def Xa(ts:List ByteArray):Nat:=(ts.map fun t=>t.size+1).sum
theorem Zr(a b:List ByteArray):Xa (a++b)=Xa a+Xa b:=by simp[Xa]
theorem putsB_len(ts:List ByteArray)(s:List Int×Bool):(putsB s ts).1.length≤s.1.length+Xa ts:=by
 have h:=puts_len (ts.map bL) s;have e:((ts.map bL).map fun t=>t.length+1)=ts.map fun t=>t.size+1:=by rw[List.map_map];exact List.map_congr_left fun t _=>by simp[Ww]
 rw[e]at h;exact h
def qN(s:ByteArray):ByteArray:=⟨#[34]⟩++s++⟨#[34]⟩
theorem Zkh(s:ByteArray):(qN s).size=s.size+2:=by
 unfold qN;rw[ByteArray.size_append,ByteArray.size_append];have e:(⟨#[34]⟩:ByteArray).size=1:=rfl;rw[e];omega
structure PrR(B:Nat)(w:World)(b:Nat)(v:Value)(st:List Int×Bool)(g1:Nat)(t1:TypeId)(xv:List Value)(a' v':Value)(x:World):Prop where
 bd:Bldr 162 [.bool st.2] B x b a' v' st.1
 step:Zbc b v w v' x
 box:Zb x g1 t1 xv.toArray
 ne:g1≠b
 far:v'.ownBlock≠some g1
theorem PrR.next{B:Nat}{w x y:World}{b:Nat}{v:Value}{st:List Int×Bool}{g1:Nat}{t1:TypeId}{xv:List Value}{a' v':Value}(h:PrR B w b v st g1 t1 xv a' v' x)(hb:Below x.heap.size x y):PrR B w b v st g1 t1 xv a' v' y:=
 ⟨h.bd.below hb,h.step.trans (Zbc.of_below hb),h.box.below hb h.box.inside,h.ne,h.far⟩
theorem PrR.write{B:Nat}{w x y:World}{b:Nat}{v:Value}{st st2:List Int×Bool}{g1:Nat}{t1:TypeId}{xv:List Value}{a' v' a2 v2:Value}(h:PrR B w b v st g1 t1 xv a' v' x)(hb:Bldr 162 [.bool st2.2] B y b a2 v2 st2.1)(hs:Zbc b v' x v2 y):PrR B w b v st2 g1 t1 xv a2 v2 y:=
 ⟨hb,h.step.trans hs,hs.keeps.whole h.box (fun c=>c.elim h.ne h.far),h.ne,fun c=>by
   rcases hs.fresh _ c with e | e
   ·exact h.far e
   ·have:=h.box.inside;omega⟩
theorem PrR.start{B:Nat}{w:World}{b:Nat}{a v:Value}{st:List Int×Bool}(h:Bldr 162 [.bool st.2] B w b a v st.1)(t1:TypeId)(xv:List Value):PrR B w b v st w.heap.size t1 xv a v (w.alloc (.cells xv.toArray t1)):=
 ⟨h.below (Za w _),Zbc.of_below (Za w _),Zb.made _ _ _,by have:=h.whole.inside;omega,fun c=>by have:=(h.row.lt _ c).2;omega⟩
def kFl(f:Fl):List ByteArray:=
 if f.kind=1∨f.kind=2 then [wd Yh f.kind,wd wOp f.op,Zdw f.n]else if f.kind=3 then [wd Yh 3,qN f.name]else [wd Yh 4,wd Jm (f.kind - 3)]
def kFls(l:List Fl):List ByteArray:=l.flatMap kFl
def Zgq(s:Se):List ByteArray:=
 if s.kind=1∨s.kind=2 then [wd Zaz s.kind]else [⟨#[40]⟩]++[wd Zq s.side,wd Ux s.wh]++(if s.wh=3 then [Zdw s.lane]else [])++kFls s.fs++[wd Zfz s.pick,⟨#[41]⟩]
open Go.Great Go.ChangeShapes Go.WideShapes Go.ChangeAt Go.RowKit
structure PE(w0:World)(b:Nat)(st:List Int×Bool)(own:List Bk)(x:World):Prop where
 ex:∃ a v:Value,Env w0 ((b,162,[a,v,.bool st.2])::own) [⟨v,5,1,st.1.length,st.1.map (Value.int .u8)⟩] [] x∧(a=.pointer none∨a=.pointer (some ⟨b,0,none⟩))
def QPost(w0:World)(b:Nat)(st:List Int×Bool)(own:List Bk)(e:Ending)(y:World):Prop:=e=.returned (.tuple #[])∧PE w0 b st own y
section
variable {w0 x y:World} {b:Nat} {st:List Int×Bool} {own:List Bk}
theorem PE.perm{own2:List Bk}(h:PE w0 b st own x)(p:own.Perm own2):PE w0 b st own2 x:=by
 obtain⟨a,v,h,u⟩:=h;exact⟨a,v,h.perm (p.cons _),u⟩
theorem PE.box(h:PE w0 b st own x)(t:TypeId)(vs:List Value):PE w0 b st ((x.heap.size,t,vs)::own) (x.alloc (.cells vs.toArray t)):=by
 obtain⟨a,v,h,u⟩:=h;refine⟨a,v,(h.box t vs).perm ?_,u⟩;exact(List.perm_append_singleton _ own).cons _
theorem PE.call(h:PE w0 b st own x)(hb:Below x.heap.size x y):PE w0 b st own y:=by
 obtain⟨a,v,h,u⟩:=h;exact⟨a,v,h.call hb,u⟩
theorem PE.drew(h:PE w0 b st own x):PE w0 b st own x.drew:=h.call ⟨rfl,rfl,rfl,Nat.le_refl _,fun _ _=>rfl⟩
theorem PE.drewN(h:PE w0 b st own x)(n:Nat):PE w0 b st own (x.drewN n):=h.call ⟨rfl,rfl,rfl,Nat.le_refl _,fun _ _=>rfl⟩
theorem PE.get(h:PE w0 b st own x)(i:Nat){g:Nat}{t:TypeId}{vs:List Value}(hi:own[i]?=some (g,t,vs)):Zb x g t vs.toArray:=by
 obtain⟨a,v,h,u⟩:=h;exact h.get (i+1) (by simpa using hi)
theorem PE.put(h:PE w0 b st own x)(i:Nat){g:Nat}{t:TypeId}{old ys:List Value}(hi:own[i]?=some (g,t,old))(p:Put x y g t ys):PE w0 b st (own.set i (g,t,ys)) y:=by
 obtain⟨a,v,h,u⟩:=h;exact⟨a,v,h.put (i+1) (by simpa using hi) p,u⟩
theorem PE.below(h:PE w0 b st own x):Below w0.heap.size w0 x:=by
 obtain⟨a,v,h,u⟩:=h;exact h.below
theorem PE.inside(h:PE w0 b st own x)(i:Nat){g:Nat}{t:TypeId}{vs:List Value}(hi:own[i]?=some (g,t,vs)):g<x.heap.size:=(h.get i hi).inside
variable {P:Program} {ops:Array Oper} {rest:List Oper} {o:Oper} {a:Act} {Q:Exit→Act→World→Prop}
end
def Zjb(st:List Int×Bool)(k:List ByteArray):Prop:=st.1.length+Xa k≤10000000000
theorem Zjb.app{st:List Int×Bool}{k l:List ByteArray}(h:Zjb st (k++l)):Zjb st k∧Zjb (putsB st k) l:=by
 unfold Zjb at *;rw[Zr]at h;have:=putsB_len k st;omega
theorem Zjb.first{st:List Int×Bool}{k l:List ByteArray}(h:Zjb st (k++l)):Zjb st k:=h.app.1
theorem Zjb.next{st:List Int×Bool}{k l:List ByteArray}(h:Zjb st (k++l)):Zjb (putsB st k) l:=h.app.2
section
variable {w0 x:World} {b:Nat} {st:List Int×Bool} {own:List Bk}
end
section
variable {w0 x:World} {b:Nat} {st:List Int×Bool} {own:List Bk}
end
def PrOK(w0:World)(f:Nat)(arg:Value)(K:List ByteArray):Prop:=∀(b:Nat)(st:List Int×Bool)(own:List Bk)(x:World),PE w0 b st own x→Zjb st K →
 Calls Tryz.prog f #[.pointer (some ⟨b,0,none⟩),arg] x (QPost w0 b (putsB st K) own)
theorem PrOK.at_{w0:World}{f:Nat}{arg:Value}{K:List ByteArray}(h:PrOK w0 f arg K){b:Nat}{s1 s2:List Int×Bool}(e:s2=putsB s1 K)(r:Zjb s1 K)(own:List Bk)(x:World)(hp:PE w0 b s1 own x) :
  Calls Tryz.prog f #[.pointer (some ⟨b,0,none⟩),arg] x (QPost w0 b s2 own):=by
 subst e;exact h b s1 own x hp r
section
variable {P:Program} {ops:Array Oper} {rest:List Oper} {o:Oper} {a:Act} {w:World} {Q:Exit→Act→World→Prop}
end
def kTo(k l:Int):List ByteArray:=[wd wTo k]++(if k=4 then [Zdw l]else [])
section
variable {w0 x:World} {b:Nat} {st:List Int×Bool} {own:List Bk}
end
def wSign:List ByteArray:=[⟨#[43]⟩,⟨#[45]⟩,⟨#[42]⟩]
def kB(b:Bool)(X:List ByteArray):List ByteArray:=if b=true then [Ue]++(X++[Zam])else X
def kLeaf(kind n:Int)(sel:Se)(side tk tl:Int):List ByteArray:=
 if kind=1 then [Zdw n]else if kind=2∨kind=3 then [wd Yu (kind - 1)]++Zgq sel else if kind=4 then [wd Yu 3]else if kind=5 then [wd Yu 4,wd Zq side]else [wd Yu 5,wd Zq side]++kTo tk tl
def kEx:Ex→List ByteArray
 |.leaf kind n sel side tk tl=>kLeaf kind n sel side tk tl
 |.bin op l r=>kB (Zde false op l) (kEx l)++([wd wSign op]++kB (Zde true op r) (kEx r))
section
variable {w0 x:World} {b:Nat} {st:List Int×Bool} {own:List Bk} {P:Program} {ops:Array Oper} {rest:List Oper} {o:Oper} {a:Act} {Q:Exit→Act→World→Prop}
end
def Jz(h:AH):List ByteArray:=
 if h.kind=1∨h.kind=2∨h.kind=12 then Zgq h.sel++kEx h.num
 else if h.kind=3∨h.kind=5∨h.kind=14 then Zgq h.sel
 else if h.kind=4 then Zgq h.sel++kTo h.tk h.tl
 else if h.kind=6 then [qN h.name,wd Zq h.side]++(kTo h.tk h.tl++kEx h.num)
 else if h.kind=7∨h.kind=9 then [wd Zq h.side]++kEx h.num
 else if h.kind=8 then [wd Zq h.side,wd Zjz h.how]
 else [wd Zq h.side]++kTo h.tk h.tl
def Zgr(X:List ByteArray):List ByteArray:=[Yz]++(X++[Xl])
def kElse(no:Bool)(e:List ByteArray):List ByteArray:=if no=true then []else [Uu]++Zgr e
def kCond(h:AH):List ByteArray:=kEx h.cl++([wd wOp h.cop]++kEx h.cr)
def kAct(h:AH)(t e:List ByteArray)(no:Bool):List ByteArray:=
 [wd Xs h.kind]++(if h.kind=10 then kCond h++(Zgr t++kElse no e)else if h.kind=11 then Zgq h.sel++Zgr t else Jz h++[Zhd])
def Uw:Acs→List ByteArray
 |.nil=>[]
 |.cons h t e r=>kAct h (Uw t) (Uw e) e.isNil++Uw r
def kRu(r:Ru):List ByteArray:=[wd Yl r.when_]++((if r.when_=5 then [Zdw r.stratum]else [])++Zgr (Uw r.acts))
def kBody(l:List Ru):List ByteArray:=[Yz]++(l.flatMap kRu++[Xl])
def kCa(c:Ca):List ByteArray:=[wd Xe 1,qN c.name,Zah,Zdw c.cost,Zal,Zdw c.power]++kBody c.rules
def kPl(p:Pl):List ByteArray:=[wd Xe 2,qN p.name]++kBody p.rules
def wt(v:TokV):Nat:=v.t.size+9
def wtL(l:List TokV):Nat:=(l.map wt).sum
def WS(L:List TokV):St→Nat
 |.ok a _=>wtL (L.drop a)
 |.bad _=>0
def Vp(L:List TokV)(a b:St)(c:Nat):Prop:=b.good=true→a.good=true∧c+WS L b≤WS L a
theorem Jy(t:ByteArray):Xa [t]=t.size+1:=by simp[Xa]
theorem Yr(t:ByteArray)(k:List ByteArray):Xa (t::k)=t.size+1+Xa k:=by simp[Xa]
theorem Yw:Xa []=0:=rfl
theorem cur_k{L:List TokV}{a:Nat}(h:(Zp L a).k≠0):wtL (L.drop a)=wt (Zp L a)+wtL (L.drop (a+1))∧onA L a=a+1:=by
 have hl:a<L.length:=by
  apply Classical.byContradiction;intro hn;apply h;have e:Zp L a=zTok:=by unfold Zp;rw[List.getElem?_eq_none (by omega)];rfl
  rw[e];rfl
 refine⟨?_,by unfold onA;rw[if_neg h]⟩;have e:Zp L a=L[a]:=by unfold Zp;rw[List.getElem?_eq_getElem hl];rfl
 unfold wtL;rw[List.drop_eq_getElem_cons hl,List.map_cons,List.sum_cons,e]
theorem ba_same{s t:ByteArray}(h:s.toList=t.toList):s=t:=by
 rw[ByteArray.toList_eq,ByteArray.toList_eq]at h;exact ByteArray.ext (Array.toList_inj.1 h)
theorem Zko{v:TokV}{t:ByteArray}(h:isT v t=true):v.k≠0∧v.t=t:=by
 unfold isT at h;simp only[Bool.and_eq_true,Bool.or_eq_true,beq_iff_eq]at h;exact⟨by omega,ba_same h.2⟩
theorem wd_succ(t:ByteArray)(r:List ByteArray)(i:Nat)(hi:i≠0):wd (t::r) ((i+1:Nat):Int)=wd r (i:Int):=by
 unfold wd;obtain⟨j,rfl⟩:∃ j,i=j+1:=⟨i - 1,by omega⟩
 have e1:(((j+1+1:Nat):Int)).toNat - 1=j+1:=by omega
 have e2:(((j+1:Nat):Int)).toNat - 1=j:=by omega
 rw[e1,e2];rfl
theorem idx_tok{v:TokV}:∀{ws:List ByteArray},Jk v ws≠0→v.k≠0∧v.t=wd ws (Jk v ws)
 |[],h=>absurd rfl h
 |t::r,h=>by
  unfold Jk at h ⊢;by_cases h1:isT v t=true
  ·rw[if_pos h1];exact⟨(Zko h1).1,(Zko h1).2⟩
  ·rw[if_neg h1]at h ⊢
   by_cases h2:Jk v r=0
   ·rw[if_pos h2]at h;exact absurd rfl h
   ·rw[if_neg h2]
    obtain⟨h3,h4⟩:=idx_tok h2;exact⟨h3,by rw[wd_succ t r _ h2];exact h4⟩
theorem putS_two:∀{n:Int},0≤n→n≤99→(Zdw n).size≤2:=by
 have h:∀ i:Fin 100,(Zdw ((i.val:Nat):Int)).size≤2:=by decide +kernel
 intro n h1 h2;have:=h ⟨n.toNat,by omega⟩;rwa [show((n.toNat:Nat):Int)=n from by omega]at this
theorem putS_tri:∀{n:Int},0≤n→n≤99→(Zdw (-n)).size≤3:=by
 have h:∀ i:Fin 100,(Zdw (-((i.val:Nat):Int))).size≤3:=by decide +kernel
 intro n h1 h2;have:=h ⟨n.toNat,by omega⟩;rwa [show((n.toNat:Nat):Int)=n from by omega]at this
section
variable {L:List TokV} {nk:Int}
theorem Zgo(st:St):Vp L st st 0:=fun h=>⟨h,by omega⟩
theorem p_trans{a b c:St}{x y:Nat}(h:Vp L a b x)(k:Vp L b c y):Vp L a c (x+y):=fun g=>by
 obtain⟨g1,p1⟩:=k g;obtain⟨g2,p2⟩:=h g1;exact⟨g2,by omega⟩
theorem p_less{a b:St}{x y:Nat}(h:Vp L a b x)(hy:y≤x):Vp L a b y:=fun g=>by
 obtain⟨g1,p1⟩:=h g;exact⟨g1,by omega⟩
theorem p_wrong(a b:St)(x:Nat):Vp L a (Zik L b) x:=by
 intro h;cases b<;>cases h
theorem Zdx{ws:List ByteArray}{st:St}(h0:Zd L ws st≠0):Vp L st (Zn L ws st) ((wd ws (Zd L ws st)).size+9):=by
 intro hg;cases st with
 |bad F=>cases hg
 |ok a d=>
  have h0':Jk (Zp L a) ws≠0:=h0;obtain⟨hk,ht⟩:=idx_tok h0';obtain⟨h1,h2⟩:=cur_k hk;refine⟨rfl,?_⟩;have e:Zn L ws (.ok a d)=.ok (onA L a) d:=if_neg h0';rw[e,h2];show(wd ws (Jk (Zp L a) ws:Nat)).size+9+wtL (L.drop (a+1))≤wtL (L.drop a);rw[h1,←ht];unfold wt;omega
theorem Jv(ws:List ByteArray)(st:St):Vp L st (Yk L ws st) ((wd ws (Zd L ws st)).size+9):=by
 unfold Yk;by_cases h0:Zd L ws st=0
 ·rw[if_pos h0];exact p_wrong _ _ _
 ·rw[if_neg h0];exact Zdx h0
theorem p_took{t:ByteArray}{st:St}(h0:isS L t st=true):Vp L st (Xf L t st) (t.size+9):=by
 intro hg;cases st with
 |bad F=>cases hg
 |ok a d=>
  have h0':isT (Zp L a) t=true:=h0;obtain⟨hk,ht⟩:=Zko h0';obtain⟨h1,h2⟩:=cur_k hk;refine⟨rfl,?_⟩;show t.size+9+wtL (L.drop (Jq L a t))≤wtL (L.drop a);unfold Jq;rw[if_pos h0',h2,h1,←ht];unfold wt;omega
theorem Zcr(t:ByteArray)(st:St):Vp L st (Yg L t st) (t.size+9):=by
 unfold Yg;by_cases h0:isS L t st=true
 ·rw[if_pos h0];exact p_took h0
 ·rw[if_neg h0];exact p_wrong _ _ _
theorem p_note{st:St}{F:Int×Nat×Nat}{a d:Nat}{c:Nat}(h:F.1=0→Vp L st (.ok a d) c):Vp L st (Vc F (.ok a d)) c:=by
 have e:Vc F (.ok a d)=if F.1=0 then .ok a d else .bad F:=rfl
 rw[e];by_cases h0:F.1=0
 ·rw[if_pos h0];exact h h0
 ·rw[if_neg h0];intro g;cases g
theorem Zkn{a k:Nat}(hk:(k:Int)≠0)(h:(Uk L a k).1=0):(Zp L a).k=k:=by
 unfold Uk at h;by_cases h1:(Zp L a).k=k
 ·exact h1
 ·rw[if_neg h1]at h;exact absurd h (Zgi _)
theorem p_int(hR:Xz L)(st:St):Vp L st (Zbk L st) ((Zdw (Zdh L st)).size+7):=by
 cases st with
 |bad F=>intro g;cases g
 |ok a d=>
  refine p_note fun h0=>?_
  have hk:(Zp L a).k=2:=Zkn (k:=2) (by decide) h0;obtain⟨h1,h2⟩:=cur_k (L:=L) (a:=a) (by rw[hk];decide);have hn:=hR.int a hk;have ev:Zdh L (.ok a d)=(Zp L a).n:=by show Zhp L a=_;unfold Zhp;rw[if_pos hk]
  have hs:=putS_two hn.1 hn.2;intro _;refine⟨rfl,?_⟩;have ea:Ul L a 2=a+1:=by unfold Ul;rw[if_pos hk,h2]
  rw[ev,ea];show _+wtL (L.drop (a+1))≤wtL (L.drop a);rw[h1];unfold wt;omega
theorem p_name(st:St):Vp L st (Xk L st) ((Jx L st).size+9):=by
 cases st with
 |bad F=>intro g;cases g
 |ok a d=>
  refine p_note fun h0=>?_
  have hk:(Zp L a).k=3:=Zkn (k:=3) (by decide) h0;obtain⟨h1,h2⟩:=cur_k (L:=L) (a:=a) (by rw[hk];decide);have ev:Jx L (.ok a d)=(Zp L a).t:=by show Zjk L a=_;unfold Zjk;rw[if_pos hk]
  intro _;refine⟨rfl,?_⟩;have ea:Ul L a 3=a+1:=by unfold Ul;rw[if_pos hk,h2]
  rw[ev,ea];show _+wtL (L.drop (a+1))≤wtL (L.drop a);rw[h1];unfold wt;omega
theorem p_sign(hR:Xz L)(st:St):Vp L st (Jb L st) ((Zdw (Js L st)).size+6):=by
 cases st with
 |bad F=>intro g;cases g
 |ok a d=>
  refine p_note fun h0=>?_
  by_cases hm:isT (Zp L a) minus=true
  ·obtain⟨hk,ht⟩:=Zko hm
   obtain⟨h1,h2⟩:=cur_k hk;have h0':(Uk L (onA L a) 2).1=0:=by unfold Zjg at h0;rw[if_pos hm]at h0;exact h0
   rw[h2]at h0';have hk2:(Zp L (a+1)).k=2:=Zkn (k:=2) (by decide) h0';obtain⟨h3,h4⟩:=cur_k (L:=L) (a:=a+1) (by rw[hk2];decide);have hn:=hR.int (a+1) hk2;have ev:Js L (.ok a d) = -(Zp L (a+1)).n:=by show Zgb L a=_;unfold Zgb;rw[if_pos hm,h2,if_pos hk2]
   have hs:=putS_tri hn.1 hn.2;intro _;refine⟨rfl,?_⟩;have ea:Zep L a=a+1+1:=by unfold Zep;rw[if_pos hm,h2];first | rw[if_pos hk2,h4] | (unfold Ul;rw[if_pos hk2,h4])
   rw[ev,ea];show _+wtL (L.drop (a+1+1))≤wtL (L.drop a);rw[h1,h3];unfold wt;omega
  ·have h0':(Uk L a 2).1=0:=by unfold Zjg at h0;rw[if_neg hm]at h0;exact h0
   have hk:(Zp L a).k=2:=Zkn (k:=2) (by decide) h0';obtain⟨h1,h2⟩:=cur_k (L:=L) (a:=a) (by rw[hk];decide);have hn:=hR.int a hk;have ev:Js L (.ok a d)=(Zp L a).n:=by show Zgb L a=_;unfold Zgb;rw[if_neg hm];unfold Zhp;rw[if_pos hk]
   have hs:=putS_two hn.1 hn.2;intro _;refine⟨rfl,?_⟩;have ea:Zep L a=a+1:=by unfold Zep;rw[if_neg hm];unfold Ul;rw[if_pos hk,h2]
   rw[ev,ea];show _+wtL (L.drop (a+1))≤wtL (L.drop a);rw[h1];unfold wt;omega
theorem p_down(t:ByteArray)(st:St):Vp L st (Vw L t st) (t.size+9):=by
 unfold Vw
 have h:Vp L st (Zdo L t st) 0:=by
  cases st with
  |bad F=>intro g;cases g
  |ok a d=>
   show Vp L _ (if isT (Zp L a) t=true then Vc (Zco L a d) (St.ok a (Zcp d))else St.ok a d) 0;split
   ·exact p_note fun _ g=>⟨rfl,by show 0+WS L (.ok a _)≤WS L (.ok a d);exact Nat.le_of_eq (Nat.zero_add _)⟩
   ·exact Zgo _
 have:=p_trans h (Zcr t (Zdo L t st));rwa [Nat.zero_add]at this
theorem p_rise(t:ByteArray)(st:St):Vp L st (Zcj L t st) (t.size+9):=by
 unfold Zcj;intro g
 have g1:(Yg L t st).good=true:=by
  generalize Yg L t st=q at *;cases q with
  |ok a d=>rfl
  |bad F=>cases g
 obtain⟨g2,p⟩:=Zcr t st g1;refine⟨g2,?_⟩
 have e:WS L (upS (Yg L t st))=WS L (Yg L t st):=by
  generalize Yg L t st=q;cases q<;>rfl
 rw[e];exact p
theorem p_filter(hR:Xz L)(st:St)(h0:Zd L Yh st≠0):Vp L st (Xv nk L (Zd L Yh st) (Zn L Yh st)).2 (Xa (kFl (Xv nk L (Zd L Yh st) (Zn L Yh st)).1)):=by
 have hle:Zd L Yh st≤4:=by
  cases st with
  |ok a d=>exact Jg (Zp L a) Yh
  |bad F=>exact absurd rfl h0
 have p0:=Zdx h0;intro hg;unfold Xv at hg ⊢;generalize Zd L Yh st=k at *;by_cases h12:k=1∨k=2
 ·rw[if_pos h12]at hg ⊢
  dsimp only at hg ⊢;obtain⟨g1,q1⟩:=p_sign hR _ hg;obtain⟨g2,q2⟩:=Jv wOp _ g1;obtain⟨g3,q3⟩:=p0 g2;refine⟨g3,?_⟩;unfold kFl;dsimp only;rw[if_pos (by omega)];simp only[Yr,Yw];omega
 ·rw[if_neg h12]at hg ⊢
  by_cases h3:k=3
  ·rw[if_pos h3]at hg ⊢
   dsimp only at hg ⊢;obtain⟨g2,q2⟩:=p_name _ hg;obtain⟨g3,q3⟩:=p0 g2;refine⟨g3,?_⟩;subst h3;unfold kFl;dsimp only;rw[if_neg (by omega),if_pos rfl];simp only[Yr,Yw,Zkh];have e3:((3:Nat):Int)=3:=rfl;rw[e3]at q3;omega
  ·rw[if_neg h3]at hg ⊢
   dsimp only at hg ⊢;obtain⟨g2,q2⟩:=Jv Jm _ hg;obtain⟨g3,q3⟩:=p0 g2;refine⟨g3,?_⟩
   have hk4:k=4:=by
    have:k≠0:=h0;omega
   subst hk4
   have hm:Zd L Jm (Zn L Yh st)≠0:=by
    intro h;unfold Yk at hg;rw[if_pos h]at hg;generalize Zn L Yh st=q at *;cases q<;>cases hg
   rw[if_neg hm];unfold kFl;dsimp only;rw[if_neg (by omega),if_neg (by omega)];have e:3+((Zd L Jm (Zn L Yh st):Nat):Int) - 3=(Zd L Jm (Zn L Yh st):Nat):=by omega
   rw[e];simp only[Yr,Yw];have e3:((4:Nat):Int)=4:=rfl;rw[e3]at q3;omega
theorem p_filters(hR:Xz L):∀(n:Nat)(st:St),Vp L st (Yp nk L n st).2 (Xa (kFls (Yp nk L n st).1))
 |0,st=>Zgo st
 |n+1,st=>by
  rw[Yp];by_cases h0:Zd L Yh st=0
  ·rw[if_pos h0];exact Zgo st
  ·rw[if_neg h0]
   dsimp only;have h:=p_trans (p_filter (nk:=nk) hR st h0) (p_filters hR n (Xv nk L (Zd L Yh st) (Zn L Yh st)).2);refine p_less h ?_;show Xa (kFl _++kFls _)≤_;rw[Zr];exact Nat.le_refl _
theorem p_where(hR:Xz L)(st:St):Vp L st (Zay L st) (Xa ([wd Zq (Vy L st).1,wd Ux (Vy L st).2.1]++(if(Vy L st).2.1=3 then [Zdw (Vy L st).2.2]else []))):=by
 intro h;unfold Zay at h ⊢;unfold Vy;dsimp only;by_cases h3:Zd L Ux (Yk L Zq st)=3
 ·rw[if_pos h3]at h ⊢
  obtain⟨g1,q1⟩:=p_int hR _ h;obtain⟨g2,q2⟩:=Jv Ux _ g1;obtain⟨g3,q3⟩:=Jv Zq _ g2;refine⟨g3,?_⟩;rw[if_pos (by omega),if_pos h3];simp only[Zr,Yr,Yw];omega
 ·simp only[if_neg h3]at h ⊢
  obtain⟨g2,q2⟩:=Jv Ux _ h;obtain⟨g3,q3⟩:=Jv Zq _ g2;refine⟨g3,?_⟩;rw[if_neg (by omega)];simp only[Zr,Yr,Yw];omega
theorem s1_size(c:UInt8):(⟨#[c]⟩:ByteArray).size=1:=rfl
theorem p_sel(hR:Xz L)(n:Nat)(st:St):Vp L st (Xy nk L n st).2 (Xa (Zgq (Xy nk L n st).1)):=by
 intro h;unfold Xy at h ⊢;by_cases h3:Zd L Zaz st=3
 ·rw[if_pos h3]at h ⊢
  dsimp only at h ⊢;obtain⟨g1,q1⟩:=Zcr Zam _ h;obtain⟨g2,q2⟩:=Jv Zfz _ g1;obtain⟨g3,q3⟩:=p_filters (nk:=nk) hR n _ g2;obtain⟨g4,q4⟩:=p_where hR _ g3;obtain⟨g5,q5⟩:=Jv Zaz st g4;refine⟨g5,?_⟩;unfold Zgq;dsimp only;rw[if_neg (by decide)];simp only[Zr,Yr,Yw,s1_size]at q4 ⊢;have e1:Zam.size=1:=rfl;rw[e1]at q1;omega
 ·rw[if_neg h3]at h ⊢
  dsimp only at h ⊢;obtain⟨g5,q5⟩:=Jv Zaz st h;refine⟨g5,?_⟩;unfold Zgq;dsimp only
  have hle:Zd L Zaz st≤3:=by
   cases st with
   |ok a d=>exact Jg (Zp L a) Zaz
   |bad F=>exact Nat.zero_le _
  have hz:Zd L Zaz st≠0:=by
   intro hz;unfold Yk at h;rw[if_pos hz]at h;cases st<;>cases h
  rw[if_pos (by omega),Jy];omega
theorem p_to(hR:Xz L)(st:St):Vp L st (toS L st) (Xa (kTo (toK L st) (toL L st))):=by
 intro h;unfold toS at h ⊢;unfold toK toL kTo;by_cases h4:Zd L wTo st=4
 ·rw[if_pos h4]at h ⊢
  obtain⟨g1,q1⟩:=p_int hR _ h;obtain⟨g2,q2⟩:=Jv wTo _ g1;refine⟨g2,?_⟩;rw[if_pos (by omega),if_pos h4];simp only[Zr,Yr,Yw];omega
 ·simp only[if_neg h4]at h ⊢
  obtain⟨g2,q2⟩:=Jv wTo _ h;refine⟨g2,?_⟩;rw[if_neg (by omega)];simp only[Zr,Yr,Yw];omega
end
theorem kB_len(b:Bool)(X:List ByteArray):Xa (kB b X)≤Xa X+4:=by
 unfold kB;have e1:Ue.size=1:=rfl;have e2:Zam.size=1:=rfl;split
 ·simp only[Zr,Yr,Yw,e1,e2];omega
 ·omega
theorem sign_size{op:Int}(h1:1≤op)(h3:op≤3):(wd wSign op).size=1:=by
 have h:op=1∨op=2∨op=3:=by omega
 rcases h with rfl | rfl | rfl<;>rfl
theorem kEx_bin{op:Int}(h1:1≤op)(h3:op≤3)(l r:Ex):Xa (kEx (.bin op l r))≤Xa (kEx l)+Xa (kEx r)+10:=by
 have e:kEx (.bin op l r)=kB (Zde false op l) (kEx l)++([wd wSign op]++kB (Zde true op r) (kEx r)):=rfl;rw[e];simp only[Zr,Yr,Yw,sign_size h1 h3];have:=kB_len (Zde false op l) (kEx l);have:=kB_len (Zde true op r) (kEx r);omega
theorem sum_size{k:Nat}(h0:k≠0)(h:k≤2):(wd Zag (k:Int)).size=1:=by
 have h:k=1∨k=2:=by omega
 rcases h with rfl | rfl<;>rfl
section
variable {L:List TokV} {nk:Int}
theorem Zkx(ws:List ByteArray)(st:St):Zd L ws st≤ws.length:=by
 cases st with
 |ok a d=>exact Jg (Zp L a) ws
 |bad F=>exact Nat.zero_le _
theorem p_exprs(hR:Xz L):∀ n:Nat,
  (∀ st,4*Zk L st+3≤n→Vp L st (Ya nk L n st).2 (Xa (kEx (Ya nk L n st).1))) ∧
  (∀ x,4*Zk L x.2≤n→(Ug nk L n x).2.good=true→x.2.good=true∧Xa (kEx (Ug nk L n x).1)+WS L (Ug nk L n x).2≤Xa (kEx x.1)+WS L x.2) ∧
  (∀ st,4*Zk L st+2≤n→Vp L st (Wp nk L n st).2 (Xa (kEx (Wp nk L n st).1))) ∧
  (∀ x,4*Zk L x.2≤n→(Uf nk L n x).2.good=true→x.2.good=true∧Xa (kEx (Uf nk L n x).1)+WS L (Uf nk L n x).2≤Xa (kEx x.1)+WS L x.2) ∧
  (∀ st,4*Zk L st+1≤n→Vp L st (Wl nk L n st).2 (Xa (kEx (Wl nk L n st).1)))
 |0=>⟨fun st h=>by omega,fun x _ h=>⟨h,Nat.le_refl _⟩,fun st h=>by omega,fun x _ h=>⟨h,Nat.le_refl _⟩,fun st h=>by omega⟩
 |n+1=>by
  obtain⟨i1,i2,i3,i4,i5⟩:=p_exprs hR n;refine⟨fun st hn h=>?_,fun x hn h=>?_,fun st hn h=>?_,fun x hn h=>?_,fun st hn h=>?_⟩
  ·rw[Ya]at h ⊢
   have r1:=Zdb L nk n st;obtain⟨g1,q1⟩:=i2 _ (by omega) h;obtain⟨g2,q2⟩:=i3 st (by omega) g1;exact⟨g2,by omega⟩
  ·rw[Ug]at h ⊢
   by_cases h0:Zd L Zag x.2=0
   ·rw[if_pos h0]at h ⊢;exact⟨h,Nat.le_refl _⟩
   ·rw[if_neg h0]at h ⊢
    have r1:=Wi L h0;have r2:=Zdb L nk n (Zn L Zag x.2);obtain⟨g1,q1⟩:=i2 _ (by dsimp only;omega) h;dsimp only at g1 q1;obtain⟨g2,q2⟩:=i3 _ (by omega) g1;obtain⟨g3,q3⟩:=Zdx h0 g2;have hle:=Zkx (L:=L) Zag x.2;have hle:Zd L Zag x.2≤2:=hle;have hb:=kEx_bin (op:=(Zd L Zag x.2:Nat)) (by omega) (by omega) x.1 (Wp nk L n (Zn L Zag x.2)).1;rw[sum_size h0 hle]at q3;exact⟨g3,by omega⟩
  ·rw[Wp]at h ⊢
   have r1:=Zdc L nk n st;obtain⟨g1,q1⟩:=i4 _ (by omega) h;obtain⟨g2,q2⟩:=i5 st (by omega) g1;exact⟨g2,by omega⟩
  ·rw[Uf]at h ⊢
   by_cases h0:isS L Vi x.2=true
   ·rw[if_pos h0]at h ⊢
    have r1:=Zbu L h0;have r2:=Zdc L nk n (Xf L Vi x.2);obtain⟨g1,q1⟩:=i4 _ (by dsimp only;omega) h;dsimp only at g1 q1;obtain⟨g2,q2⟩:=i5 _ (by omega) g1;obtain⟨g3,q3⟩:=p_took h0 g2;have hb:=kEx_bin (op:=3) (by omega) (by omega) x.1 (Wl nk L n (Xf L Vi x.2)).1;have e1:Vi.size=1:=rfl;rw[e1]at q3;exact⟨g3,by omega⟩
   ·rw[if_neg h0]at h ⊢;exact⟨h,Nat.le_refl _⟩
  ·rw[Wl]at h ⊢
   by_cases ho:isS L Ue st=true
   ·rw[if_pos ho]at h ⊢
    dsimp only at h ⊢;have r1:=Zgl L ho;obtain⟨g1,q1⟩:=p_rise Zam _ h;obtain⟨g2,q2⟩:=i1 _ (by omega) g1;obtain⟨g3,q3⟩:=p_down Ue _ g2;exact⟨g3,by omega⟩
   ·rw[if_neg ho]at h ⊢
    by_cases h0:Zd L Yu st=0
    ·rw[if_pos h0]at h ⊢
     dsimp only at h ⊢;obtain⟨g1,q1⟩:=p_sign hR _ h;refine⟨g1,?_⟩;have e:kEx (.leaf 1 (Js L st) zSe 0 0 0)=[Zdw (Js L st)]:=rfl;rw[e,Jy];omega
    ·rw[if_neg h0]at h ⊢
     have hle:Zd L Yu st≤5:=Zkx (L:=L) Yu st;have p0:=Zdx h0;by_cases h12:Zd L Yu st=1∨Zd L Yu st=2
     ·rw[if_pos h12]at h ⊢
      dsimp only at h ⊢;obtain⟨g1,q1⟩:=p_sel hR n _ h;obtain⟨g2,q2⟩:=p0 g1;refine⟨g2,?_⟩
      have e:kEx (.leaf ((Zd L Yu st:Nat)+1) 0 (Xy nk L n (Zn L Yu st)).1 0 0 0)=[wd Yu (Zd L Yu st:Nat)]++Zgq (Xy nk L n (Zn L Yu st)).1:=by
        show kLeaf _ _ _ _ _ _=_;unfold kLeaf;rw[if_neg (by omega),if_pos (by omega)];congr 2
        rw[show((Zd L Yu st:Nat):Int)+1 - 1=(Zd L Yu st:Nat)from by omega]
      rw[e,Zr,Jy];omega
     ·rw[if_neg h12]at h ⊢
      by_cases h3:Zd L Yu st=3
      · rw[if_pos h3]at h ⊢
        dsimp only at h ⊢;obtain⟨g2,q2⟩:=p0 h;refine⟨g2,?_⟩;have e:kEx (.leaf 4 0 zSe 0 0 0)=[wd Yu 3]:=rfl;rw[h3]at q2;have e3:((3:Nat):Int)=3:=rfl;rw[e3]at q2;rw[e,Jy];omega
      · rw[if_neg h3]at h ⊢
        by_cases h4:Zd L Yu st=4
        ·rw[if_pos h4]at h ⊢
         dsimp only at h ⊢;obtain⟨g1,q1⟩:=Jv Zq _ h;obtain⟨g2,q2⟩:=p0 g1;refine⟨g2,?_⟩;have e:kEx (.leaf 5 0 zSe (Zd L Zq (Zn L Yu st):Nat) 0 0)=[wd Yu 4,wd Zq (Zd L Zq (Zn L Yu st):Nat)]:=rfl;rw[h4]at q2;have e3:((4:Nat):Int)=4:=rfl;rw[e3]at q2;rw[e];simp only[Yr,Yw];omega
        ·rw[if_neg h4]at h ⊢
         dsimp only at h ⊢;obtain⟨g1,q1⟩:=p_to hR _ h;obtain⟨g3,q3⟩:=Jv Zq _ g1;obtain⟨g2,q2⟩:=p0 g3;refine⟨g2,?_⟩;have h5:Zd L Yu st=5:=by omega
         have e:∀ a b c:Int,kEx (.leaf 6 0 zSe a b c)=[wd Yu 5,wd Zq a]++kTo b c:=fun _ _ _=>rfl
         rw[h5]at q2;have e3:((5:Nat):Int)=5:=rfl;rw[e3]at q2;rw[e];simp only[Zr,Yr,Yw];omega
theorem p_expr(hR:Xz L){n:Nat}{st:St}(hn:4*Zk L st+3≤n):Vp L st (Ya nk L n st).2 (Xa (kEx (Ya nk L n st).1)):=(p_exprs hR n).1 st hn
theorem kA1{h:AH}  (c:h.kind=1∨h.kind=2∨h.kind=12):Jz h=Zgq h.sel++kEx h.num:=by unfold Jz;rw[if_pos c]
theorem kA2{h:AH}(n1:¬(h.kind=1∨h.kind=2∨h.kind=12))(c:h.kind=3∨h.kind=5∨h.kind=14):Jz h=Zgq h.sel:=by unfold Jz;rw[if_neg n1,if_pos c]
theorem kA3{h:AH}(n1:¬(h.kind=1∨h.kind=2∨h.kind=12))(n2:¬(h.kind=3∨h.kind=5∨h.kind=14))(c:h.kind=4):Jz h=Zgq h.sel++kTo h.tk h.tl:=by unfold Jz;rw[if_neg n1,if_neg n2,if_pos c]
theorem kA4{h:AH}(n1:¬(h.kind=1∨h.kind=2∨h.kind=12))(n2:¬(h.kind=3∨h.kind=5∨h.kind=14))(n3:¬(h.kind=4))(c:h.kind=6):Jz h=[qN h.name,wd Zq h.side]++(kTo h.tk h.tl++kEx h.num):=by unfold Jz;rw[if_neg n1,if_neg n2,if_neg n3,if_pos c]
theorem kA5{h:AH}(n1:¬(h.kind=1∨h.kind=2∨h.kind=12))(n2:¬(h.kind=3∨h.kind=5∨h.kind=14))(n3:¬(h.kind=4))(n4:¬(h.kind=6))(c:h.kind=7∨h.kind=9):Jz h=[wd Zq h.side]++kEx h.num:=by unfold Jz;rw[if_neg n1,if_neg n2,if_neg n3,if_neg n4,if_pos c]
theorem kA6{h:AH}(n1:¬(h.kind=1∨h.kind=2∨h.kind=12))(n2:¬(h.kind=3∨h.kind=5∨h.kind=14))(n3:¬(h.kind=4))(n4:¬(h.kind=6))(n5:¬(h.kind=7∨h.kind=9))(c:h.kind=8):Jz h=[wd Zq h.side,wd Zjz h.how]:=by unfold Jz;rw[if_neg n1,if_neg n2,if_neg n3,if_neg n4,if_neg n5,if_pos c]
theorem kA7{h:AH}(n1:¬(h.kind=1∨h.kind=2∨h.kind=12))(n2:¬(h.kind=3∨h.kind=5∨h.kind=14))(n3:¬(h.kind=4))(n4:¬(h.kind=6))(n5:¬(h.kind=7∨h.kind=9))(n6:¬(h.kind=8)):Jz h=[wd Zq h.side]++kTo h.tk h.tl:=by unfold Jz;rw[if_neg n1,if_neg n2,if_neg n3,if_neg n4,if_neg n5,if_neg n6]
theorem p_plain(hR:Xz L){n k:Nat}{l c:Int}{st:St}(hk:1≤k∧k≤15∧k≠10∧k≠11)(hn:4*Zk L st+3≤n) :
  Vp L st (Yq nk L n (AH.zero k l c) k st).2 (Xa (Jz (Yq nk L n (AH.zero k l c) k st).1))∧(Yq nk L n (AH.zero k l c) k st).1.kind=k:=by
 unfold Yq;by_cases c1:k=1∨k=2∨k=12
 ·rw[if_pos c1]
  refine⟨fun h=>?_,rfl⟩;dsimp only at h ⊢;have r:=Ur L nk n st;obtain⟨g1,q1⟩:=p_expr hR (by omega) h;obtain⟨g2,q2⟩:=p_sel hR n _ g1;refine⟨g2,?_⟩;rw[kA1  (by show((k:Int)=1∨(k:Int)=2∨(k:Int)=12);omega),Zr];dsimp only;omega
 ·rw[if_neg c1]
  have n1:¬((k:Int)=1∨(k:Int)=2∨(k:Int)=12):=by omega
  by_cases c2:k=3∨k=5∨k=14
  ·rw[if_pos c2]
   refine⟨fun h=>?_,rfl⟩;dsimp only at h ⊢;obtain⟨g2,q2⟩:=p_sel hR n _ h;refine⟨g2,?_⟩;rw[kA2 n1 (by show((k:Int)=3∨(k:Int)=5∨(k:Int)=14);omega)];exact q2
  ·rw[if_neg c2]
   have n2:¬((k:Int)=3∨(k:Int)=5∨(k:Int)=14):=by omega
   by_cases c3:k=4
   ·rw[if_pos c3]
    refine⟨fun h=>?_,rfl⟩;dsimp only at h ⊢;obtain⟨g1,q1⟩:=p_to hR _ h;obtain⟨g2,q2⟩:=p_sel hR n _ g1;refine⟨g2,?_⟩;rw[kA3 n1 n2 (by show(k:Int)=4;omega),Zr];dsimp only;omega
   ·rw[if_neg c3]
    have n3:¬(k:Int)=4:=by omega
    by_cases c4:k=6
    ·rw[if_pos c4]
     refine⟨fun h=>?_,rfl⟩;dsimp only at h ⊢;have r1:=Zdv L (Yk L Zq (Xk L st));have r2:=Yt L Zq (Xk L st);have r3:=Vn L st;obtain⟨g0,q0⟩:=p_expr hR (by omega) h;obtain⟨g1,q1⟩:=p_to hR _ g0;obtain⟨g2,q2⟩:=Jv Zq _ g1;obtain⟨g3,q3⟩:=p_name _ g2;refine⟨g3,?_⟩;rw[kA4 n1 n2 n3 (by show(k:Int)=6;omega)];simp only[Zr,Yr,Yw,Zkh];omega
    ·rw[if_neg c4]
     have n4:¬(k:Int)=6:=by omega
     by_cases c5:k=7∨k=9
     ·rw[if_pos c5]
      refine⟨fun h=>?_,rfl⟩;dsimp only at h ⊢;have r2:=Yt L Zq st;obtain⟨g0,q0⟩:=p_expr hR (by omega) h;obtain⟨g2,q2⟩:=Jv Zq _ g0;refine⟨g2,?_⟩;rw[kA5 n1 n2 n3 n4 (by show((k:Int)=7∨(k:Int)=9);omega)];simp only[Zr,Yr,Yw];omega
     ·rw[if_neg c5]
      have n5:¬((k:Int)=7∨(k:Int)=9):=by omega
      by_cases c6:k=8
      ·rw[if_pos c6]
       refine⟨fun h=>?_,rfl⟩;dsimp only at h ⊢;obtain⟨g0,q0⟩:=Jv Zjz _ h;obtain⟨g2,q2⟩:=Jv Zq _ g0;refine⟨g2,?_⟩;rw[kA6 n1 n2 n3 n4 n5 (by show(k:Int)=8;omega)];simp only[Zr,Yr,Yw];omega
      ·rw[if_neg c6]
       have n6:¬(k:Int)=8:=by omega
       have c7:k=13∨k=15:=by omega
       rw[if_pos c7];refine⟨fun h=>?_,rfl⟩;dsimp only at h ⊢;obtain⟨g0,q0⟩:=p_to hR _ h;obtain⟨g2,q2⟩:=Jv Zq _ g0;refine⟨g2,?_⟩;rw[kA7 n1 n2 n3 n4 n5 n6];simp only[Zr,Yr,Yw];omega
theorem p_cond(hR:Xz L){n:Nat}{h0:AH}{st:St}(hn:4*Zk L st+3≤n):Vp L st (Xb nk L n h0 st).2 (Xa (kCond (Xb nk L n h0 st).1)):=by
 intro h;unfold Xb at h ⊢;dsimp only at h ⊢;have r1:=Zat L nk n st;have r2:=Yt L wOp (Ya nk L n st).2;obtain⟨g1,q1⟩:=p_expr hR (by omega) h;obtain⟨g2,q2⟩:=Jv wOp _ g1;obtain⟨g3,q3⟩:=p_expr hR hn g2;refine⟨g3,?_⟩;unfold kCond;simp only[Zr,Yr,Yw];omega
def kRest(h:AH)(t e:List ByteArray)(no:Bool):List ByteArray:=if h.kind=10 then kCond h++(Zgr t++kElse no e)else if h.kind=11 then Zgq h.sel++Zgr t else Jz h++[Zhd]
theorem kRest_11{h:AH}{t e:List ByteArray}{no:Bool}(hk:h.kind=11):kRest h t e no=Zgq h.sel++Zgr t:=by
 unfold kRest;rw[if_neg (by omega),if_pos hk]
theorem Zdg(X:List ByteArray):Xa (Zgr X)=Xa X+4:=by
 unfold Zgr;have e1:Yz.size=1:=rfl;have e2:Xl.size=1:=rfl;simp only[Zr,Yr,Yw,e1,e2];omega
theorem kElse_len(no:Bool)(X:List ByteArray):Xa (kElse no X)≤Xa (Zgr X)+5:=by
 unfold kElse;have e1:Uu.size=4:=rfl;split
 ·simp only[Yw];omega
 ·simp only[Zr,Yr,Yw,e1];omega
theorem p_acts(hR:Xz L):∀ n:Nat,
  (∀ st,4*Zk L st+1≤n→Vp L st (Xc nk L n st).2 (Xa (Uw (Xc nk L n st).1))) ∧
  (∀(k:Nat)(l c:Int) st,1≤k∧k≤15→4*Zk L st+4≤n→Vp L st (Ws nk L n (AH.zero k l c) k st).st (Xa (kRest (Ws nk L n (AH.zero k l c) k st).h (Uw (Ws nk L n (AH.zero k l c) k st).thn) (Uw (Ws nk L n (AH.zero k l c) k st).els) (Ws nk L n (AH.zero k l c) k st).els.isNil)) ∧
    (Ws nk L n (AH.zero k l c) k st).h.kind=k) ∧
  (∀ st,4*Zk L st+3≤n→Vp L st (Yf nk L n st).2 (Xa (Zgr (Uw (Yf nk L n st).1))))
 |0=>⟨fun st h=>by omega,fun k l c st _ h=>by omega,fun st h=>by omega⟩
 |n+1=>by
  obtain⟨i1,i2,i3⟩:=p_acts hR n;refine⟨fun st hn=>?_,fun k l c st hk hn=>?_,fun st hn h=>?_⟩
  · rw[Xc]
    by_cases h0:Zd L Xs st=0
    ·rw[if_pos h0];exact Zgo st
    ·rw[if_neg h0]
     dsimp only;have r1:=Wi L h0;have r2:=rem_act L nk n (AH.zero (Zd L Xs st) (st.tok L).line (st.tok L).col) (Zd L Xs st) (Zn L Xs st);have hle:Zd L Xs st≤15:=Zkx (L:=L) Xs st;obtain⟨a1,a2⟩:=i2 (Zd L Xs st) (st.tok L).line (st.tok L).col (Zn L Xs st) ⟨by omega,hle⟩ (by omega);intro h;obtain⟨g1,q1⟩:=i1 _ (by omega) h;obtain⟨g2,q2⟩:=a1 g1;obtain⟨g3,q3⟩:=Zdx h0 g2;refine⟨g3,?_⟩;unfold Uw;have e:∀(h:AH)(t e:List ByteArray)(no:Bool),kAct h t e no=[wd Xs h.kind]++kRest h t e no:=fun _ _ _ _=>rfl
     rw[e,a2];simp only[Zr,Yr,Yw];omega
  · rw[Ws]
    by_cases h10:k=10
    ·rw[if_pos h10]
     subst h10;have r1:=Zev L nk n (AH.zero (10:Nat) l c) st;have r2:=Zir L nk n (Xb nk L n (AH.zero (10:Nat) l c) st).2;have e10:(Xb nk L n (AH.zero (10:Nat) l c) st).1.kind=10:=rfl;by_cases he:isS L Uu (Yf nk L n (Xb nk L n (AH.zero (10:Nat) l c) st).2).2=true
     ·rw[if_pos he]
      refine⟨fun h=>?_,rfl⟩;dsimp only at h ⊢;have r3:=Zbu L he;obtain⟨g1,q1⟩:=i3 _ (by omega) h;obtain⟨g2,q2⟩:=p_took he g1;obtain⟨g3,q3⟩:=i3 _ (by omega) g2;obtain⟨g4,q4⟩:=p_cond hR (by omega) g3;refine⟨g4,?_⟩;unfold kRest;rw[if_pos e10];have e1:Uu.size=4:=rfl;rw[e1]at q2;have hel:=kElse_len (Yf nk L n (Xf L Uu (Yf nk L n (Xb nk L n (AH.zero (10:Nat) l c) st).2).2)).1.isNil (Uw (Yf nk L n (Xf L Uu (Yf nk L n (Xb nk L n (AH.zero (10:Nat) l c) st).2).2)).1);simp only[Zr];omega
     ·rw[if_neg he]
      refine⟨fun h=>?_,rfl⟩;dsimp only at h ⊢;obtain⟨g3,q3⟩:=i3 _ (by omega) h;obtain⟨g4,q4⟩:=p_cond hR (by omega) g3;refine⟨g4,?_⟩;unfold kRest;rw[if_pos e10];have e:kElse (Acs.nil).isNil (Uw .nil)=[]:=rfl;rw[e];simp only[Zr,Yw];omega
    ·rw[if_neg h10]
     by_cases h11:k=11
     ·rw[if_pos h11]
      subst h11;have r1:=Ur L nk n st;refine⟨fun h=>?_,rfl⟩;dsimp only at h ⊢;obtain⟨g3,q3⟩:=i3 _ (by omega) h;obtain⟨g4,q4⟩:=p_sel hR n _ g3;refine⟨g4,?_⟩;rw[kRest_11 rfl];simp only[Zr];omega
     ·rw[if_neg h11]
      obtain⟨a1,a2⟩:=p_plain (nk:=nk) (l:=l) (c:=c) hR (n:=n) (k:=k) (st:=st) ⟨hk.1,hk.2,h10,h11⟩ (by omega);refine⟨fun h=>?_,a2⟩;dsimp only at h ⊢;obtain⟨g3,q3⟩:=Zcr Zhd _ h;obtain⟨g4,q4⟩:=a1 g3;refine⟨g4,?_⟩;unfold kRest;rw[a2,if_neg (by omega),if_neg (by omega)];simp only[Zr,Jy];omega
  · rw[Yf]at h ⊢
    dsimp only at h ⊢;have r1:=Zdd L Yz st;obtain⟨g1,q1⟩:=p_rise Xl _ h;obtain⟨g2,q2⟩:=i1 _ (by omega) g1;obtain⟨g3,q3⟩:=p_down Yz _ g2;refine⟨g3,?_⟩;rw[Zdg];omega
theorem p_str(hR:Xz L)(k:Nat)(st:St):Vp L st (Zbh L k st) (Xa (if k=5 then [Zdw (Zka L k st)]else [])):=by
 unfold Zbh Zka;by_cases h5:k=5
 ·rw[if_pos h5,if_pos h5,if_pos h5,Jy]
  exact p_less (p_int hR st) (by omega)
 ·rw[if_neg h5,if_neg h5]
  exact Zgo st
theorem p_rules(hR:Xz L):∀(n:Nat)(st:St),4*Zk L st+2≤n→Vp L st (Wn nk L n st).2 (Xa ((Wn nk L n st).1.flatMap kRu))
 |0,st,h=>by omega
 |n+1,st,hn=>by
  rw[Wn];by_cases h0:Zd L Yl st=0
  ·rw[if_pos h0];exact Zgo st
  ·rw[if_neg h0]
   intro h;dsimp only at h ⊢;have r1:=Wi L h0;have r2:=Zkg L (Zd L Yl st) (Zn L Yl st);have r3:=Yv L Yz (Zbh L (Zd L Yl st) (Zn L Yl st));have r4:=Zhg L nk n (Yg L Yz (Zbh L (Zd L Yl st) (Zn L Yl st)));have r5:=Yv L Xl (Xc nk L n (Yg L Yz (Zbh L (Zd L Yl st) (Zn L Yl st)))).2;obtain⟨g1,q1⟩:=p_rules hR n _ (by omega) h;obtain⟨g2,q2⟩:=Zcr Xl _ g1;obtain⟨g3,q3⟩:=(p_acts (nk:=nk) hR n).1 _ (by omega) g2;obtain⟨g4,q4⟩:=Zcr Yz _ g3;obtain⟨g5,q5⟩:=p_str hR _ _ g4;obtain⟨g6,q6⟩:=Zdx h0 g5;refine⟨g6,?_⟩;have er:∀ r:Ru,kRu r=[wd Yl r.when_]++((if r.when_=5 then [Zdw r.stratum]else [])++Zgr (Uw r.acts)):=fun _=>rfl
   rw[List.flatMap_cons,Zr,er];dsimp only
   have e:(if((Zd L Yl st:Nat):Int)=5 then [Zdw (Zka L (Zd L Yl st) (Zn L Yl st))]else [])=if Zd L Yl st=5 then [Zdw (Zka L (Zd L Yl st) (Zn L Yl st))]else []:=by
    by_cases h5:Zd L Yl st=5
    ·rw[if_pos h5,if_pos (by omega)]
    ·rw[if_neg h5,if_neg (by omega)]
   rw[e];simp only[Zr,Jy,Zdg];omega
theorem p_body(hR:Xz L){n:Nat}{st:St}(hn:4*Zk L st+2≤n):Vp L st (Vx nk L n st).2 (Xa (kBody (Vx nk L n st).1)):=by
 intro h;unfold Vx at h ⊢;dsimp only at h ⊢;have r1:=Yv L Yz st;obtain⟨g1,q1⟩:=Zcr Xl _ h;obtain⟨g2,q2⟩:=p_rules hR n _ (by omega) g1;obtain⟨g3,q3⟩:=Zcr Yz _ g2;refine⟨g3,?_⟩;unfold kBody;simp only[Zr,Jy];omega
theorem p_card(hR:Xz L){n:Nat}{l c:Int}{st:St}(hn:4*Zk L st+2≤n):Vp L st (Vf nk L n l c st).2 (Xa (kCa (Vf nk L n l c st).1) - ((wd Xe 1).size+1)):=by
 intro h;unfold Vf at h ⊢;dsimp only at h ⊢;have r1:=Vn L st;have r2:=Yv L Zah (Xk L st);have r3:=Zck L (Yg L Zah (Xk L st));have r4:=Yv L Zal (Zbk L (Yg L Zah (Xk L st)));have r5:=Zda L (Yg L Zal (Zbk L (Yg L Zah (Xk L st))));obtain⟨g1,q1⟩:=p_body hR (by omega) h;obtain⟨g2,q2⟩:=p_sign hR _ g1;obtain⟨g3,q3⟩:=Zcr Zal _ g2;obtain⟨g4,q4⟩:=p_int hR _ g3;obtain⟨g5,q5⟩:=Zcr Zah _ g4;obtain⟨g6,q6⟩:=p_name _ g5;refine⟨g6,?_⟩;unfold kCa;simp only[Zr,Yr,Yw,Zkh];omega
theorem p_place(hR:Xz L){n:Nat}{l c:Int}{st:St}(hn:4*Zk L st+2≤n):Vp L st (Wc nk L n l c st).2 (Xa (kPl (Wc nk L n l c st).1) - ((wd Xe 2).size+1)):=by
 intro h;unfold Wc at h ⊢;dsimp only at h ⊢;have r1:=Vn L st;obtain⟨g1,q1⟩:=p_body hR (by omega) h;obtain⟨g6,q6⟩:=p_name _ g1;refine⟨g6,?_⟩;unfold kPl;simp only[Zr,Yr,Yw,Zkh];omega
def lenFi(f:Fi):Nat:=(f.cards.map fun c=>Xa (kCa c)+1).sum+(f.places.map fun p=>Xa (kPl p)+1).sum
theorem kCa_len(c:Ca):(wd Xe 1).size+1≤Xa (kCa c):=by unfold kCa;simp only[Zr,Yr,Yw];omega
theorem kPl_len(p:Pl):(wd Xe 2).size+1≤Xa (kPl p):=by unfold kPl;simp only[Zr,Yr,Yw];omega
theorem p_file(hR:Xz L):∀(n:Nat)(st:St),4*Zk L st+1≤n→Vp L st (Wd nk L n st).2 (lenFi (Wd nk L n st).1)
 |0,st,h=>by omega
 |n+1,st,hn=>by
  rw[Wd];by_cases h0:Zd L Xe st=0
  ·rw[if_pos h0];exact Zgo st
  ·rw[if_neg h0]
   have r1:=Wi L h0;have p0:=Zdx h0;by_cases h1:Zd L Xe st=1
   ·rw[if_pos h1]
    intro h;dsimp only at h ⊢;have r2:=rem_card L nk n (st.tok L).line (st.tok L).col (Zn L Xe st);obtain⟨g1,q1⟩:=p_file hR n _ (by omega) h;obtain⟨g2,q2⟩:=p_card hR (by omega) g1;obtain⟨g3,q3⟩:=p0 g2;refine⟨g3,?_⟩;rw[h1]at q3;have e3:((1:Nat):Int)=1:=rfl;rw[e3]at q3;have:=kCa_len (Vf nk L n (st.tok L).line (st.tok L).col (Zn L Xe st)).1;unfold lenFi at q1 ⊢;simp only[List.map_cons,List.sum_cons];omega
   ·rw[if_neg h1]
    have h2:Zd L Xe st=2:=by have:Zd L Xe st≤2:=Zkx (L:=L) Xe st;omega
    intro h;dsimp only at h ⊢;have r2:=Zip L nk n (st.tok L).line (st.tok L).col (Zn L Xe st);obtain⟨g1,q1⟩:=p_file hR n _ (by omega) h;obtain⟨g2,q2⟩:=p_place hR (by omega) g1;obtain⟨g3,q3⟩:=p0 g2;refine⟨g3,?_⟩;rw[h2]at q3;have e3:((2:Nat):Int)=2:=rfl;rw[e3]at q3;have:=kPl_len (Wc nk L n (st.tok L).line (st.tok L).col (Zn L Xe st)).1;unfold lenFi at q1 ⊢;simp only[List.map_cons,List.sum_cons];omega
end
theorem tokL_to(l:List Int):(Zs l).2.2.1≤(Zs l).2.2.2:=by
 cases l with
 |nil=>exact Nat.le_refl _
 |cons c r=>
  refine Uh c r (fun x=>x.2.2.1≤x.2.2.2) ?_ ?_ ?_ ?_ ?_ ?_ ?_ ?_<;>intros<;>simp
theorem Tr.weight{s:ByteArray}{a:Nat}{L:List TokV}(h:Tr s a L):wtL L+10*a≤10*s.size+9:=by
 induction h with
 |fin a ha=>
  have e:wtL [endV s a]=9:=rfl;rw[e];omega
 |skip a b L hab _ ih=>omega
 |tok a L ha hk _ _ ih=>
  have h1:=Ja s ha (by omega);have h2:=tokL_to (Zh s a);have e:wtL (Zen s a::L)=(Zen s a).t.size+9+wtL L:=by simp[wtL,wt]
  have h3:(Zen s a).t.size≤(Zs (Zh s a)).2.2.2:=by
   show(s.extract _ _).size≤_;rw[ByteArray.size_extract];omega
  rw[e];omega
theorem text_weight(s:ByteArray)(hs:s.size≤65536):WS (Ut s) (Zas s)≤10*s.size+9:=by
 obtain⟨L,E,p,hc⟩:∃ L E p,Vm s 0 []=(L,E,p):=⟨_,_,_,rfl⟩
 have hf:=Zdu s s.size 0 [] L E p (by omega) (by omega) (Bd.zero s) hc;unfold Zas Ut;rw[Zeq s hs hc];by_cases hE:E=0
 ·obtain⟨L2,h2,h3⟩:=hf.1 hE
  have e:L=L2:=h2;subst e;rw[if_pos hE];have:=h3.weight;show wtL (List.drop 0 L)≤_;rw[List.drop_zero];omega
 ·rw[if_neg hE,if_neg hE]
  exact Nat.zero_le _
theorem parse_len(nk:Int)(s:ByteArray)(hs:s.size≤65536):lenFi (parseF nk s).1≤10*s.size+9:=by
 unfold parseF;dsimp only;by_cases hg:(Zai (Ut s) (Zgg nk s).2).good=true
 ·rw[if_pos hg]
  have h2:=over_good hg;unfold Zgg at h2 ⊢;rcases text_ok s hs with⟨F,e1,e2⟩ | ⟨e1,hr⟩
  ·rw[e1,show Zcy s=(Zcy s - 1)+1 from by unfold Zcy;omega,file_off]at h2
   cases h2
  ·have:=(p_file (nk:=nk) hr (Zcy s) (Zas s) (by have:=text_rem s;unfold Zcy;omega) h2).2
   have:=text_weight s hs;omega
 ·rw[if_neg hg]
  exact Nat.zero_le _
theorem z_fi:(Tryz.prog.info? 26).map (fun i=>i.zero.map Value.cells)=some (some ([.slice none 0 0,.slice none 0 0]:List Value).toArray):=by kernel_rfl
def Zjw(w:World)(r K:Nat)(L:List TokV):Prop:=0<L.length→Zig w r K L
theorem Zjw.below{w w':World}{r K:Nat}{L:List TokV}(h:Zjw w r K L)(hb:Below w.heap.size w w'):Zjw w' r K L:=fun hl=>(h hl).below hb
theorem Zjw.put{x y:World}{r K:Nat}{L:List TokV}(h:Zjw x r K L){g B:Nat}{t:TypeId}{vs:List Value}(p:Put x y g t vs)(hr:0<L.length→r<B)(hg:B≤g):Zjw y r K L:=fun hl=>(h hl).keeps p.keeps (by have:=hr hl;omega)
theorem Zjw.rin{w:World}{r K:Nat}{L:List TokV}(h:Zjw w r K L):0<L.length→r<w.heap.size:=fun hl=>(h hl).rin
structure RPv(r K:Nat)(L:List TokV)(st:St)(vs:List Value):Prop where
 form:∃ A n k a d,vs=[.slice A n k,.int .i64 (a:Nat),.int .i64 (d:Nat),.int .i64 (Zfy st).1,.int .i64 ((Zfy st).2.1:Int),.int .i64 ((Zfy st).2.2:Int)]∧d≤8 ∧
  ∀ a' d',st=.ok a' d'→A=some ⟨r,0,none⟩∧n=L.length∧k=K∧a=a'∧d=d'∧a'<L.length
 flt:∀ F,st=.bad F→F.1≠0
theorem RPv.ok{r K:Nat}{L:List TokV}{a d:Nat}{vs:List Value}(h:RPv r K L (.ok a d) vs):∃ n,n=L.length∧vs=[.slice (some ⟨r,0,none⟩) n K,.int .i64 (a:Int),.int .i64 (d:Int),.int .i64 0,.int .i64 0,.int .i64 0]∧a<L.length∧d≤8:=by
 obtain⟨A,n,k,a',d',e,hd,hk⟩:=h.form;obtain⟨h1,h2,h3,h4,h5,h6⟩:=hk a d rfl;subst h1 h3 h4 h5;exact⟨n,h2,e,h6,hd⟩
theorem RPv.bad{r K:Nat}{L:List TokV}{F:Int×Nat×Nat}{vs:List Value}(h:RPv r K L (.bad F) vs):∃ A n k a d,vs=[.slice A n k,.int .i64 (a:Nat),.int .i64 (d:Nat),.int .i64 F.1,.int .i64 (F.2.1:Int),.int .i64 (F.2.2:Int)]∧d≤8∧F.1≠0:=by
 obtain⟨A,n,k,a',d',e,hd,_⟩:=h.form;exact⟨A,n,k,a',d',e,hd,h.flt F rfl⟩
theorem RPv.len{r K:Nat}{L:List TokV}{st:St}{vs:List Value}(h:RPv r K L st vs):vs.length=6:=by
 obtain⟨A,n,k,a,d,e,_⟩:=h.form;rw[e];rfl
theorem RPv.one{r K:Nat}{L:List TokV}{st:St}{vs:List Value}(h:RPv r K L st vs):∀ v ∈ vs,v.oneCell'=true:=by
 obtain⟨A,n,k,a,d,e,_⟩:=h.form;rw[e];simp[Value.oneCell']
structure Box2(w:World)(xs rs:List Value)(x:World):Prop where
 box:Zb x w.heap.size 82 xs.toArray
 res:Zb x (w.heap.size+1) 82 rs.toArray
 below:Below w.heap.size w x
 size:w.heap.size+2≤x.heap.size
theorem Box2.start(w:World)(xs rs:List Value):Box2 w xs rs ((w.alloc (.cells xs.toArray 82)).alloc (.cells rs.toArray 82)):=by
 refine⟨(Zb.made w _ xs.toArray).alloc _,?_,(Xq (Za w _) (Za _ _)),by simp⟩;have e:=Zb.made (w.alloc (.cells xs.toArray 82)) 82 rs.toArray;rw[World.size_alloc]at e;exact e
theorem Box2.next{w x y:World}{xs rs:List Value}(h:Box2 w xs rs x)(b:Below x.heap.size x y):Box2 w xs rs y:=
 ⟨h.box.below b (by have:=h.size;omega),h.res.below b (by have:=h.size;omega),h.below.trans (b.mono (by have:=h.size;omega)),by have:=h.size;have:=b.size;omega⟩
theorem Box2.drew{w x:World}{xs rs:List Value}(h:Box2 w xs rs x):Box2 w xs rs x.drew:=⟨h.box,h.res,Jo h.below,h.size⟩
theorem Box2.drewN{w x:World}{xs rs:List Value}(h:Box2 w xs rs x)(n:Nat):Box2 w xs rs (x.drewN n):=⟨h.box,h.res,Zcq h.below n,h.size⟩
open Go Go.RowKit Go.Great
section
variable {w x y:World} {bs:List Bk} {rs:List Rw} {ts:List (Ds×List Value)}
end
theorem Env.ne{w x:World}{bs:List Bk}{rs:List Rw}{ts:List (Ds×List Value)}(h:Env w bs rs ts x)(i j:Nat)(hij:i≠j){b c:Bk}(hi:bs[i]?=some b)(hj:bs[j]?=some c):b.1≠c.1:=by
 obtain⟨h1,e1⟩:=List.getElem?_eq_some_iff.1 hi;obtain⟨h2,e2⟩:=List.getElem?_eq_some_iff.1 hj;have hp:=List.pairwise_iff_getElem.1 h.nod;have g1:(bs.map (·.1))[i]'(by simpa using h1)=b.1:=by simp[e1]
 have g2:(bs.map (·.1))[j]'(by simpa using h2)=c.1:=by simp[e2]
 intro e;rcases Nat.lt_trichotomy i j with q | q | q
 ·exact hp i j _ _ q (by rw[g1,g2,e])
 ·exact hij q
 ·exact hp j i _ _ q (by rw[g1,g2,e])
theorem mixed:(Tryz.prog).follows .mixedOrders=true:=by kernel_rfl
end Go.Proofs.YtljdgdphldckhaaGreat
