/- Parts of the proof. No conditions but those that each names. -/
import Derived.Test.YtbdecchpleiepaaGreatQL35
set_option maxRecDepth 20000
set_option maxHeartbeats 99000000
set_option linter.unusedVariables false
set_option linter.unusedSimpArgs false
namespace Go.Proofs.YtbdecchpleiepaaGreat
open Go.Value renaming int→I,slice→Λ,pointer→Ω,string→Ψ
open Go.IntKind renaming i64→J
open _root_.Go.Proofs.Tryz renaming prog→Φ
open Nat renaming le_trans→Ξ
open Go.Ending renaming returned→η
open Go.ChangeShapes Go.WideShapes Go.ChangeAt Go.RowKit
def Zki(nk:Int)(s:ByteArray):Fi×St:=Wk nk (Wh s) (Zfi s) (Je s)
def Zcn(nk:Int)(s:ByteArray):Fi×(Int×Nat×Nat):=(if(Xq (Wh s) (Zki nk s).2).good=true then(Zki nk s).1 else⟨[],[]⟩,Xb (Xq (Wh s) (Zki nk s).2))
theorem Zli(s:ByteArray):Zx (Wh s) (Je s)≤(Wh s).length:=by
 unfold Je;split
 ·exact Nat.sub_le _ _
 ·exact Nat.zero_le _
theorem text_len(s:ByteArray)(h:s.size≤65536):(Wh s).length≤65537:=by
 unfold Wh;rcases Zkl s h with⟨E,l,c,hv,_⟩ | ⟨L,hv,_,hl⟩
 ·rw[hv];exact Nat.zero_le _
 ·rw[hv];show L.length≤65537;omega
def Zhu(w:World)(ds:Ds)(F:Int×Nat×Nat)(e:Ending)(w':World):Prop:=
 ∃ vs:List Value,e=η (.tuple #[.agg vs.toArray,Zr F])∧Zs (fun k=>w.heap.size≤k) w' ds vs∧Below w.heap.size w w'
theorem below_move{B:Nat}{w x y:World}{q c r K:Nat}{L:List TokV}{st:St}(h:Below B w x)(m:Xw x y q c r K L st)(hq:B≤q)(hc:B≤c)(hx:B≤x.heap.size):Below B w y:=
 h.trans (m.keeps.below hx fun k hk=>by omega)
theorem Zec{B:Nat}{w x y:World}{g:Nat}{t:TypeId}{vs:List Value}(h:Below B w x)(p:Put x y g t vs)(hg:B≤g)(hx:B≤x.heap.size):Below B w y:=
 h.trans (p.keeps.below hx fun k hk=>by omega)
theorem Zgg:∀(vs:List Value),vs.length=2→∃ a b,vs=[a,b]
 |[a,b],_=>⟨a,b,rfl⟩
theorem bthen2{B:Nat}{w x y:World}(h:Below B w x)(k:Below x.heap.size x y)(hB:B≤x.heap.size):Below B w y:=h.trans (k.mono hB)
theorem kfact(n:Nat)(L:List TokV)(st:St)(h1:isS L Zab st=false)(h2:Zk L Wa st=0)(w:World)(q c r K:Nat)(h:PAt w q c r K L st) :
  Calls Φ 202 #[Ω (some ⟨q,0,none⟩)] w (Vq w q c r K L (Ww 5 L (n+1) st).2 (Ww 5 L (n+1) st).1.ds):=by
 have qin:=h.whole.inside;have cin:=h.cin;have rin:=h.rin;have nb:=Zh w (.cells #[I J 0,I J 0,I J 0,I J 0,I J 0,I J 0,Λ none 0 0,I J 0,I J 0,I J 0,I J 0,Λ none 0 0] 81);have nb2:=Zh (w.alloc (.cells #[I J 0,I J 0,I J 0,I J 0,I J 0,I J 0,Λ none 0 0,I J 0,I J 0,I J 0,I J 0,Λ none 0 0] 81)) (.cells #[I J 0,I J 0,I J 0,I J 0,I J 0,I J 0,Λ none 0 0,I J 0,I J 0,I J 0,I J 0,Λ none 0 0] 81);have M0:=Hh (((Xw.start h).next nb).next nb2);have R0:=Hh ((Zi.made w 81 #[I J 0,I J 0,I J 0,I J 0,I J 0,I J 0,Λ none 0 0,I J 0,I J 0,I J 0,I J 0,Λ none 0 0]).alloc (.cells #[I J 0,I J 0,I J 0,I J 0,I J 0,I J 0,Λ none 0 0,I J 0,I J 0,I J 0,I J 0,Λ none 0 0] 81));have T0:=Hh (show Zi _ (w.heap.size+1) 81 [I J 0,I J 0,I J 0,I J 0,I J 0,I J 0,Λ none 0 0,I J 0,I J 0,I J 0,I J 0,Λ none 0 0].toArray from by simpa using Zi.made (w.alloc (.cells #[I J 0,I J 0,I J 0,I J 0,I J 0,I J 0,Λ none 0 0,I J 0,I J 0,I J 0,I J 0,Λ none 0 0] 81)) 81 #[I J 0,I J 0,I J 0,I J 0,I J 0,I J 0,Λ none 0 0,I J 0,I J 0,I J 0,I J 0,Λ none 0 0]);have hcell:=M0.out.at_.cell;clear nb nb2;have hnp:isS L Zab st=false:=h1;have hp:¬ isS L Zab st=true:=by rw[h1];exact Bool.false_ne_true
 have his:∀ w,PAt w q c r K L st→Calls Φ 78 #[Zdi c st,Ψ ⟨#[40]⟩] w fun e w'=>e=η (.bool false)∧Below w.heap.size w w':=fun w h=>by rw[←hnp];exact xIs w q c r K L st Zab h
 rw[Ww,if_neg hp];obtain⟨fi0,fi1⟩:=find_inv L Wa st;have hfn:=Uh L (ws:=Wa) (st:=st);have hfr:=Vt (L:=L) (ws:=Wa) (st:=st);rw[h2]at *;generalize hs1:Ye L Wa st=s1 at *;clear hs1 hp hnp h h1;have ht0:∀ w,PAt w q c r K L st→Calls Φ 58 #[Zdi c st,Ψ ⟨#[99,111,117,110,116]⟩] w (Ue w q c r K L st (.bool false)):=fun w h=>by have e:isS L ⟨#[99,111,117,110,116]⟩ st=false:=fi0 rfl 0 (by decide);have h1:=Zic w q c r K L st ⟨#[99,111,117,110,116]⟩ h;rw[e,Zcb e]at h1;exact h1
 have ht1:∀ w,PAt w q c r K L st→Calls Φ 58 #[Zdi c st,Ψ ⟨#[115,117,109]⟩] w (Ue w q c r K L st (.bool false)):=fun w h=>by have e:isS L ⟨#[115,117,109]⟩ st=false:=fi0 rfl 1 (by decide);have h1:=Zic w q c r K L st ⟨#[115,117,109]⟩ h;rw[e,Zcb e]at h1;exact h1
 have ht2:∀ w,PAt w q c r K L st→Calls Φ 58 #[Zdi c st,Ψ ⟨#[114,111,117,110,100]⟩] w (Ue w q c r K L st (.bool false)):=fun w h=>by have e:isS L ⟨#[114,111,117,110,100]⟩ st=false:=fi0 rfl 2 (by decide);have h1:=Zic w q c r K L st ⟨#[114,111,117,110,100]⟩ h;rw[e,Zcb e]at h1;exact h1
 have ht3:∀ w,PAt w q c r K L st→Calls Φ 58 #[Zdi c st,Ψ ⟨#[104,97,110,100]⟩] w (Ue w q c r K L st (.bool false)):=fun w h=>by have e:isS L ⟨#[104,97,110,100]⟩ st=false:=fi0 rfl 3 (by decide);have h1:=Zic w q c r K L st ⟨#[104,97,110,100]⟩ h;rw[e,Zcb e]at h1;exact h1
 have ht4:∀ w,PAt w q c r K L st→Calls Φ 58 #[Zdi c st,Ψ ⟨#[102,114,101,101]⟩] w (Ue w q c r K L st (.bool false)):=fun w h=>by have e:isS L ⟨#[102,114,101,101]⟩ st=false:=fi0 rfl 4 (by decide);have h1:=Zic w q c r K L st ⟨#[102,114,101,101]⟩ h;rw[e,Zcb e]at h1;exact h1
 generalize hsg:Zeh L st=sg at *;have hrd:∀ w,PAt w q c r K L st→Calls Φ 83 #[Ω (some ⟨q,0,none⟩),.func (.func 85) #[Zdi c st] #[]] w (Ue w q c r K L (Zbe L st) (I J sg)):=fun w h=>by rw[←hsg];exact xreadSigned w q c r K L st h
 rw[if_pos rfl];clear hsg fi0 fi1 hfn hfr;go_enter Tryz.func202,Tryz.ntmps202;go_wp2_with(first
 |(go_at_call 78;refine(his _ M0.out.at_).mono ?_;rintro e w1 ⟨rfl,b1⟩
   have R1:=Hh (R0.out.below b1 R0.out.inside);have T1:=Hh (T0.out.below b1 T0.out.inside);have M1:=Hh (M0.out.next b1);have hz1:w.heap.size+2≤w1.heap.size:=by have:=b1.size;(try simp at this);omega
   have hcell:=M1.out.at_.cell;clear b1)
 |(go_at_call 58;(with_reducible refine(ht0 _ ?_).mono ?_);exact M1.out.at_;rintro e w2 ⟨rfl,m2⟩
   have R2:=Hh (m2.keeps.whole R1.out (by omega));have T2:=Hh (m2.keeps.whole T1.out (by omega));have M2:=Hh (M1.out.then m2);have hz2:=Ξ hz1 m2.keeps.size;have hcell:=M2.out.at_.cell;clear m2)
 |(go_at_call 58;(with_reducible refine(ht1 _ ?_).mono ?_);exact M2.out.at_;rintro e w3 ⟨rfl,m3⟩
   have R3:=Hh (m3.keeps.whole R2.out (by omega));have T3:=Hh (m3.keeps.whole T2.out (by omega));have M3:=Hh (M2.out.then m3);have hz3:=Ξ hz2 m3.keeps.size;have hcell:=M3.out.at_.cell;clear m3)
 |(go_at_call 58;(with_reducible refine(ht2 _ ?_).mono ?_);exact M3.out.at_;rintro e w4 ⟨rfl,m4⟩
   have R4:=Hh (m4.keeps.whole R3.out (by omega));have T4:=Hh (m4.keeps.whole T3.out (by omega));have M4:=Hh (M3.out.then m4);have hz4:=Ξ hz3 m4.keeps.size;have hcell:=M4.out.at_.cell;clear m4)
 |(go_at_call 58;(with_reducible refine(ht3 _ ?_).mono ?_);exact M4.out.at_;rintro e w5 ⟨rfl,m5⟩
   have R5:=Hh (m5.keeps.whole R4.out (by omega));have T5:=Hh (m5.keeps.whole T4.out (by omega));have M5:=Hh (M4.out.then m5);have hz5:=Ξ hz4 m5.keeps.size;have hcell:=M5.out.at_.cell;clear m5)
 |(go_at_call 58;(with_reducible refine(ht4 _ ?_).mono ?_);exact M5.out.at_;rintro e w6 ⟨rfl,m6⟩
   have R6:=Hh (m6.keeps.whole R5.out (by omega));have T6:=Hh (m6.keeps.whole T5.out (by omega));have M6:=Hh (M5.out.then m6);have hz6:=Ξ hz5 m6.keeps.size;have hcell:=M6.out.at_.cell;clear m6)
 |((with_reducible refine Jb ?_);refine Zp 3 _ (.const (I J 1)) 81 (w.heap.size+1) 0 [] (I J 0) (I J 1) ([I J 0,I J 0,I J 0,I J 0,I J 0,Λ none 0 0,I J 0,I J 0,I J 0,I J 0,Λ none 0 0]) (show Zi _ _ _ _ from T6.out) rfl Yw rfl rfl rfl rfl rfl rfl ?_
   intro w7 p7;have T7:=Hh (show Zi w7 (w.heap.size+1) 81 ([I J 1,I J 0,I J 0,I J 0,I J 0,I J 0,Λ none 0 0,I J 0,I J 0,I J 0,I J 0,Λ none 0 0]).toArray from by first | exact p7.whole | simpa using p7.whole);have R7:=Hh (p7.keeps.whole R6.out (by omega));have M7:=Hh (M6.out.put p7 (by omega) qin cin rin);have hz7:=Ξ hz6 p7.keeps.size;have hcell:=M7.out.at_.cell;clear p7)
 |(go_at_call 83;refine(hrd _ M7.out.at_).mono ?_;rintro e w8 ⟨rfl,m8⟩
   have R8:=Hh (m8.keeps.whole R7.out (by omega));have T8:=Hh (m8.keeps.whole T7.out (by omega));have M8:=Hh (M7.out.then m8);have hz8:=Ξ hz7 m8.keeps.size;have hcell:=M8.out.at_.cell;clear m8)
 |((with_reducible refine Zg 12 11 ?_);refine Zp 3 _ _ 81 (w.heap.size+1) 1 [I J 1] (I J 0) (I J sg) ([I J 0,I J 0,I J 0,I J 0,Λ none 0 0,I J 0,I J 0,I J 0,I J 0,Λ none 0 0]) (show Zi _ _ _ _ from T8.out) rfl Yw rfl rfl rfl rfl rfl rfl ?_
   intro w9 p9;have T9:=Hh (show Zi w9 (w.heap.size+1) 81 ([I J 1,I J sg,I J 0,I J 0,I J 0,I J 0,Λ none 0 0,I J 0,I J 0,I J 0,I J 0,Λ none 0 0]).toArray from by first | exact p9.whole | simpa using p9.whole);have R9:=Hh (p9.keeps.whole R8.out (by omega));have M9:=Hh (M8.out.put p9 (by omega) qin cin rin);have hz9:=Ξ hz8 p9.keeps.size;have hcell:=M9.out.at_.cell;clear p9)
 |((with_reducible refine Zd 71 ?_);refine Zc 81 _ 81 (w.heap.size+1) _ T9.out Yy (Wo (show Zs (fun k=>w.heap.size+2≤k) w9 _ ([I J 1,I J sg,I J 0,I J 0,I J 0,I J 0,Λ none 0 0,I J 0,I J 0,I J 0,I J 0,Λ none 0 0])from Uq 1 sg zSe 0 0 0 (Zas _ _)).len12) rfl rfl rfl ?_)
 |((with_reducible refine Zg 2 71 ?_);refine Za 81 _ _ 81 (w.heap.size) _ ([I J 1,I J sg,I J 0,I J 0,I J 0,I J 0,Λ none 0 0,I J 0,I J 0,I J 0,I J 0,Λ none 0 0]) R9.out (show Zs (fun k=>w.heap.size+2≤k) w9 _ ([I J 1,I J sg,I J 0,I J 0,I J 0,I J 0,Λ none 0 0,I J 0,I J 0,I J 0,I J 0,Λ none 0 0])from Uq 1 sg zSe 0 0 0 (Zas _ _)).len12 (Wo (show Zs (fun k=>w.heap.size+2≤k) w9 _ ([I J 1,I J sg,I J 0,I J 0,I J 0,I J 0,Λ none 0 0,I J 0,I J 0,I J 0,I J 0,Λ none 0 0])from Uq 1 sg zSe 0 0 0 (Zas _ _)).len12) (show Zs (fun k=>w.heap.size+2≤k) w9 _ ([I J 1,I J sg,I J 0,I J 0,I J 0,I J 0,Λ none 0 0,I J 0,I J 0,I J 0,I J 0,Λ none 0 0])from Uq 1 sg zSe 0 0 0 (Zas _ _)).one rfl rfl rfl rfl rfl ?_
   intro w10 p10;have R10:=Hh p10.whole;have T10:=Hh (p10.keeps.whole T9.out (by omega));have M10:=Hh (M9.out.put p10 (by omega) qin cin rin);have hz10:=Ξ hz9 p10.keeps.size;have hcell:=M10.out.at_.cell;clear p10))
 exact Ya 2 81 81 w.heap.size _ rfl R10.out Yy (Wo (show Zs (fun k=>w.heap.size+2≤k) w10 _ ([I J 1,I J sg,I J 0,I J 0,I J 0,I J 0,Λ none 0 0,I J 0,I J 0,I J 0,I J 0,Λ none 0 0])from Uq 1 sg zSe 0 0 0 (Zas _ _)).len12) rfl rfl ⟨_,rfl,Zs.lower (show Zs (fun k=>w.heap.size+2≤k) w10 _ ([I J 1,I J sg,I J 0,I J 0,I J 0,I J 0,Λ none 0 0,I J 0,I J 0,I J 0,I J 0,Λ none 0 0])from Uq 1 sg zSe 0 0 0 (Zas _ _)) (by omega),M10.out⟩
end Go.Proofs.YtbdecchpleiepaaGreat
