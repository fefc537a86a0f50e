/- Parts of the proof. No conditions but those that each names. -/
import Derived.Test.YtdngkgickbaboaaGreatQF12
set_option maxRecDepth 20000
set_option maxHeartbeats 12800000
set_option linter.unusedVariables false
set_option linter.unusedSimpArgs false
namespace Go.Proofs.YtdngkgickbaboaaGreat
open Go.Value renaming int→I,slice→Λ,pointer→Ω,string→Ψ,oneCell'→Γ
open Go.IntKind renaming i64→J
open _root_.Go.Proofs.Tryz renaming prog→Φ
open Nat renaming le_refl→Θ
open Nat renaming le_trans→Ξ
open Go.Ending renaming returned→η
open Go.ChangeShapes Go.WideShapes Go.ChangeAt Go.RowKit
def ExprOK(n:Nat):Prop:=∀(w:World)(q c r K:Nat)(L:List TokV)(st:St),PAt w q c r K L st→4*Zw L st+3≤n→Zw L st≤68719476736 →
 Calls Φ 43 #[Ω (some ⟨q,0,none⟩)] w (Zac w q c r K L (Yh 5 L n st).2 (Yh 5 L n st).1.ds)
def ProdOK(n:Nat):Prop:=∀(w:World)(q c r K:Nat)(L:List TokV)(st:St),PAt w q c r K L st→4*Zw L st+2≤n→Zw L st≤68719476736 →
 Calls Φ 74 #[Ω (some ⟨q,0,none⟩)] w (Zac w q c r K L (Vl 5 L n st).2 (Vl 5 L n st).1.ds)
def FactOK(n:Nat):Prop:=∀(w:World)(q c r K:Nat)(L:List TokV)(st:St),PAt w q c r K L st→4*Zw L st+1≤n→Zw L st≤68719476736 →
 Calls Φ 98 #[Ω (some ⟨q,0,none⟩)] w (Zac w q c r K L (Wp 5 L n st).2 (Wp 5 L n st).1.ds)
theorem Zt.len12{N:Nat→Prop}{w:World}{x:Ex}{vs:List Value}(h:Zt N w x.ds vs):vs.length=12:=h.len.trans x.ds_len
theorem Se.ds_len(s:Se):s.ds.len=6:=rfl
theorem zEx_deep(N:Nat→Prop)(w:World):Zt N w zEx.ds [I J 0,I J 0,I J 0,I J 0,I J 0,I J 0,Λ none 0 0,I J 0,I J 0,I J 0,I J 0,Λ none 0 0]:=⟨_,rfl,_,rfl,_,rfl,_,rfl,_,rfl,_,rfl,none,0,[],_,rfl,⟨Nat.zero_le _,Θ _⟩,.inl rfl,rfl,_,rfl,_,rfl,_,rfl,_,rfl,none,0,[],_,rfl,⟨Nat.zero_le _,Θ _⟩,.inl rfl,rfl,rfl⟩
theorem xparen(n:Nat)(ih:ExprOK n)(w:World)(q c r K:Nat)(L:List TokV)(st:St)(h:PAt w q c r K L st)(hn:4*Zw L (Vw L Ws st)+3≤n)(hLn:Zw L st≤68719476736) :
  Calls Φ 129 #[Ω (some ⟨q,0,none⟩)] w (Zac w q c r K L (Zhe L Vb (Yh 5 L n (Vw L Ws st)).2) (Yh 5 L n (Vw L Ws st)).1.ds):=by
 have qin:=h.whole.inside;have cin:=h.cin;have rin:=h.rin;have nb:=Zj w (.cells #[I J 0,I J 0,I J 0,I J 0,I J 0,I J 0,Λ none 0 0,I J 0,I J 0,I J 0,I J 0,Λ none 0 0] 54);have M0:=Hh ((Wg.start h).next nb);have R0:=Hh (Ze.made w 54 #[I J 0,I J 0,I J 0,I J 0,I J 0,I J 0,Λ none 0 0,I J 0,I J 0,I J 0,I J 0,Λ none 0 0]);have hr:=Zik L Ws st;clear h nb;generalize hd:Vw L Ws st=s1 at *;have hde:∀ w,PAt w q c r K L st→Calls Φ 165 #[Ω (some ⟨q,0,none⟩),Ψ ⟨#[40]⟩] w (Xw w q c r K L s1 (.tuple #[])):=fun w h=>by rw[←hd];exact xdescend w q c r K L st Ws h
 have hex:∀ w,PAt w q c r K L s1→Calls Φ 43 #[Ω (some ⟨q,0,none⟩)] w (Zac w q c r K L (Yh 5 L n s1).2 (Yh 5 L n s1).1.ds):=fun w h=>ih w q c r K L s1 h hn (by omega)
 generalize Yh 5 L n s1=x at *;have hx12:=x.1.ds_len;have HX:=Hh hx12;clear hd hn hLn hr hx12;go_enter Tryz.func129,Tryz.ntmps129;go_wp2_with(first
 |(go_at_call 165;refine(hde _ M0.out.at_).mono ?_;rintro e w1 ⟨rfl,m1⟩
   have R1:=Hh (m1.keeps.whole R0.out (by omega));have hz1:w.heap.size+1≤w1.heap.size:=by have:=m1.keeps.size;simp at this;omega
   have M1:=Hh (M0.out.then m1);clear m1)
 |(go_at_call 43;refine(hex _ M1.out.at_).mono ?_;rintro e w2 ⟨vs,rfl,d2,m2⟩
   have R2:=Hh (m2.keeps.whole R1.out (by omega));have hz2:w.heap.size+1≤w2.heap.size:=by have:=m2.keeps.size;omega
   obtain⟨a0,a1,a2,a3,a4,a5,a6,a7,a8,a9,a10,a11,rfl⟩:=Zdf vs (d2.len.trans HX.out);have nb:=Zj w2 (.cells #[I J 0,I J 0,I J 0,I J 0,I J 0,I J 0,Λ none 0 0,I J 0,I J 0,I J 0,I J 0,Λ none 0 0] 54);have T2:=Hh (Ze.made w2 54 #[I J 0,I J 0,I J 0,I J 0,I J 0,I J 0,Λ none 0 0,I J 0,I J 0,I J 0,I J 0,Λ none 0 0]);have R2:=Hh (R2.out.below nb (by omega));have M2:=Hh ((M1.out.then m2).next nb);have D2:=Hh ((d2.below nb).lower (show w.heap.size+1≤_ by omega));have O3:=Hh d2.one;have hb2:∀ k,w2.heap.size≤k→k≠w.heap.size:=fun k hk=>by omega
   have DD:=Hh d2;clear m2 nb d2)
 |((with_reducible refine Zi 3 7 ?_);refine Za 54 _ _ 54 w2.heap.size _ [a0,a1,a2,a3,a4,a5,a6,a7,a8,a9,a10,a11] T2.out rfl Ym O3.out rfl rfl rfl rfl rfl ?_
   intro w3 p3;have T3:=Hh p3.whole;have R3:=Hh (p3.keeps.whole R2.out (by omega));have hz3:w2.heap.size+1≤w3.heap.size:=by have:=p3.keeps.size;simp at this;omega
   have M3:=Hh (M2.out.put p3 (by omega) qin cin rin);have D3:=Hh ((DD.out.keeps ((Zy.of_below (S:=fun k=>k=w2.heap.size) (Zj w2 _)).trans p3.keeps) (M:=fun k=>w.heap.size+1≤k) fun k hk hn=>⟨by omega,by omega⟩));clear p3)
 |(go_at_call 166;refine(xascend _ q c r K L _ Vb M3.out.at_).mono ?_;rintro e w4 ⟨rfl,m4⟩
   have T4:=Hh (m4.keeps.whole T3.out (by omega));have R4:=Hh (m4.keeps.whole R3.out (by omega));have M4:=Hh (M3.out.then m4);have D4:=Hh (D3.out.move m4 (by omega) (by omega));clear m4)
 |((with_reducible refine Zd 10 ?_);refine Zb 54 _ 54 w2.heap.size _ T4.out Xk Ym rfl rfl rfl ?_)
 |((with_reducible refine Zi 2 10 ?_);refine Za 54 _ _ 54 w.heap.size _ [a0,a1,a2,a3,a4,a5,a6,a7,a8,a9,a10,a11] R4.out rfl Ym O3.out rfl rfl rfl rfl rfl ?_
   intro w5 p5;have R5:=Hh p5.whole;have M5:=Hh (M4.out.put p5 (by omega) qin cin rin);have D5:=Hh (D4.out.put p5 (by omega));clear p5))
 exact Wu 2 54 54 w.heap.size _ rfl R5.out Xk Ym rfl rfl ⟨_,rfl,D5.out.lower (by omega),M5.out⟩
theorem idx_inv(v:TokV):∀ ws:List ByteArray,(Zar v ws=0→∀ j,j<ws.length→isT v (ws.getD j ⟨#[]⟩)=false) ∧
  (∀ k,Zar v ws=k+1→k<ws.length∧(∀ j,j<k→isT v (ws.getD j ⟨#[]⟩)=false)∧isT v (ws.getD k ⟨#[]⟩)=true)
 |[]=>⟨fun _ j hj=>absurd hj (Nat.not_lt_zero j),fun k h=>by cases h⟩
 |t::r=>by
  obtain⟨h1,h2⟩:=idx_inv v r;unfold Zar;by_cases ht:isT v t=true
  ·rw[if_pos ht]
   refine⟨fun h=>(by cases h),fun k h=>?_⟩;obtain rfl:k=0:=by omega
   exact⟨by rw[List.length_cons];omega,fun j hj=>absurd hj (Nat.not_lt_zero j),ht⟩
  ·have ht':isT v t=false:=by simpa using ht
   rw[if_neg ht];by_cases hr:Zar v r=0
   ·rw[if_pos hr]
    refine⟨fun _ j hj=>?_,fun k h=>by cases h⟩;cases j with
    |zero=>exact ht'
    |succ j=>exact h1 hr j (by rw[List.length_cons]at hj;omega)
   ·rw[if_neg hr]
    refine⟨fun h=>by omega,fun k h=>?_⟩;obtain⟨m,rfl⟩:∃ m,k=m+1:=⟨k - 1,by omega⟩
    obtain⟨a,b,c⟩:=h2 m (by omega);refine⟨by rw[List.length_cons];omega,fun j hj=>?_,c⟩;cases j with
    |zero=>exact ht'
    |succ j=>exact b j (by omega)
theorem find_inv(L:List TokV)(ws:List ByteArray)(st:St):(Zh L ws st=0→∀ j,j<ws.length→isS L (ws.getD j ⟨#[]⟩) st=false) ∧
  (∀ k,Zh L ws st=k+1→(∀ j,j<k→isS L (ws.getD j ⟨#[]⟩) st=false)∧isS L (ws.getD k ⟨#[]⟩) st=true∧Yd L ws st=Wf L (ws.getD k ⟨#[]⟩) st):=by
 cases st with
 |ok a d=>
  obtain⟨h1,h2⟩:=idx_inv (Zx L a) ws;refine⟨h1,fun k h=>?_⟩;obtain⟨a1,a2,a3⟩:=h2 k h;exact⟨a2,a3,(Zoc L ws (.ok a d) k a1 a2 a3).2⟩
 |bad F=>exact⟨fun _ _ _=>rfl,fun k h=>by cases h⟩
theorem Ys{N:Nat→Prop}{w:World}(k n:Int)(s:Se)(sd tk tl:Int){vs:List Value}(h:Zt N w s.ds vs):Zt N w (Ex.leaf k n s sd tk tl).ds ([I J k,I J n]++vs++[I J sd,I J tk,I J tl,Λ none 0 0]):=
 ⟨_,rfl,_,rfl,Zt.app (y:=.int sd (.int tk (.int tl (.row 0 .nil .nil)))) (us:=[I J sd,I J tk,I J tl,Λ none 0 0]) ⟨_,rfl,_,rfl,_,rfl,none,0,[],_,rfl,⟨Nat.zero_le _,Θ _⟩,.inl rfl,rfl,rfl⟩ h⟩
theorem Wb(N:Nat→Prop)(w:World):Zt N w zSe.ds [I J 0,I J 0,I J 0,I J 0,Λ none 0 0,I J 0]:=⟨_,rfl,_,rfl,_,rfl,_,rfl,none,0,[],_,rfl,⟨Nat.zero_le _,Θ _⟩,.inl rfl,rfl,_,rfl,rfl⟩
theorem Zt.len6{N:Nat→Prop}{w:World}{x:Se}{vs:List Value}(h:Zt N w x.ds vs):vs.length=6:=h.len
theorem Wz{vs:List Value}(h:vs.length=12):(Tryz.prog.info? 54).map (·.size)=some vs.length:=by rw[h];exact Ym
theorem size_sel'{vs:List Value}(h:vs.length=6):(Tryz.prog.info? 49).map (·.size)=some vs.length:=by rw[h];exact Wd
theorem xfact(n:Nat)(ih:ExprOK n):FactOK (n+1):=by
 intro w q c r K L st h hn hLn;have qin:=h.whole.inside;have cin:=h.cin;have rin:=h.rin;have nb:=Zj w (.cells #[I J 0,I J 0,I J 0,I J 0,I J 0,I J 0,Λ none 0 0,I J 0,I J 0,I J 0,I J 0,Λ none 0 0] 54);have nb2:=Zj (w.alloc (.cells #[I J 0,I J 0,I J 0,I J 0,I J 0,I J 0,Λ none 0 0,I J 0,I J 0,I J 0,I J 0,Λ none 0 0] 54)) (.cells #[I J 0,I J 0,I J 0,I J 0,I J 0,I J 0,Λ none 0 0,I J 0,I J 0,I J 0,I J 0,Λ none 0 0] 54);have M0:=Hh (((Wg.start h).next nb).next nb2);have R0:=Hh ((Ze.made w 54 #[I J 0,I J 0,I J 0,I J 0,I J 0,I J 0,Λ none 0 0,I J 0,I J 0,I J 0,I J 0,Λ none 0 0]).alloc (.cells #[I J 0,I J 0,I J 0,I J 0,I J 0,I J 0,Λ none 0 0,I J 0,I J 0,I J 0,I J 0,Λ none 0 0] 54));have T0:=Hh (show Ze _ (w.heap.size+1) 54 [I J 0,I J 0,I J 0,I J 0,I J 0,I J 0,Λ none 0 0,I J 0,I J 0,I J 0,I J 0,Λ none 0 0].toArray from by simpa using Ze.made (w.alloc (.cells #[I J 0,I J 0,I J 0,I J 0,I J 0,I J 0,Λ none 0 0,I J 0,I J 0,I J 0,I J 0,Λ none 0 0] 54)) 54 #[I J 0,I J 0,I J 0,I J 0,I J 0,I J 0,Λ none 0 0,I J 0,I J 0,I J 0,I J 0,Λ none 0 0]);have hcell:=M0.out.at_.cell;clear nb nb2;by_cases hp:isS L Ws st=true
 ·have hd:=Zjj L hp
  have hf:Wp 5 L (n+1) st=((Yh 5 L n (Vw L Ws st)).1,Zhe L Vb (Yh 5 L n (Vw L Ws st)).2):=by rw[Wp,if_pos hp]
  rw[hf];have hpa:∀ w,PAt w q c r K L st→Calls Φ 129 #[Ω (some ⟨q,0,none⟩)] w (Zac w q c r K L (Zhe L Vb (Yh 5 L n (Vw L Ws st)).2) (Yh 5 L n (Vw L Ws st)).1.ds):=fun w h=>xparen n ih w q c r K L st h (by omega) hLn
  have his:∀ w,PAt w q c r K L st→Calls Φ 128 #[Ji c st,Ψ ⟨#[40]⟩] w fun e w'=>e=η (.bool true)∧Below w.heap.size w w':=fun w h=>by rw[←hp];exact xIs w q c r K L st Ws h
  generalize Yh 5 L n (Vw L Ws st)=x at *;clear hf hp hd hn hLn h;go_enter Tryz.func98,Tryz.ntmps98;go_wp2_with(first
 |(go_at_call 128;refine(his _ M0.out.at_).mono ?_;rintro e w1 ⟨rfl,b1⟩
   have R1:=Hh (R0.out.below b1 R0.out.inside);have T1:=Hh (T0.out.below b1 T0.out.inside);have M1:=Hh (M0.out.next b1);have hz1:w.heap.size+2≤w1.heap.size:=by have:=b1.size;(try simp at this);omega
   have hcell:=M1.out.at_.cell;clear b1)
 |(go_at_call 129;refine(hpa _ M1.out.at_).mono ?_;rintro e w2 ⟨xv,rfl,d2,m2⟩
   have R2:=Hh (m2.keeps.whole R1.out (by omega));have T2:=Hh (m2.keeps.whole T1.out (by omega));have M2:=Hh (M1.out.then m2);have hz2:=Ξ hz1 m2.keeps.size;have hcell:=M2.out.at_.cell;have X2:=Hh (d2.lower (show w.heap.size+2≤_ by first | omega | (simp;done) | (simp;omega)));have XL:=Hh d2.len;clear m2 d2)
 |((with_reducible refine Zi 2 20 ?_);refine Za 54 _ _ 54 (w.heap.size) _ (xv) R2.out (X2.out.len12) (Wz X2.out.len12) X2.out.one rfl rfl rfl rfl rfl ?_
   intro w3 p3;have R3:=Hh p3.whole;have T3:=Hh (p3.keeps.whole T2.out (by omega));have X3:=Hh (X2.out.put p3 (by omega));have M3:=Hh (M2.out.put p3 (by omega) qin cin rin);have hz3:=Ξ hz2 p3.keeps.size;have hcell:=M3.out.at_.cell;clear p3))
  exact Wu 2 54 54 w.heap.size _ rfl R3.out Xk (Wz X3.out.len12) rfl rfl ⟨_,rfl,X3.out.lower (by omega),M3.out⟩
 ·have hnp:isS L Ws st=false:=by simpa using hp
  have his:∀ w,PAt w q c r K L st→Calls Φ 128 #[Ji c st,Ψ ⟨#[40]⟩] w fun e w'=>e=η (.bool false)∧Below w.heap.size w w':=fun w h=>by rw[←hnp];exact xIs w q c r K L st Ws h
  rw[Wp,if_neg hp];obtain⟨fi0,fi1⟩:=find_inv L Yy st;have hle:=Zhk L Yy st;have hfn:=Zah L (ws:=Yy) (st:=st);have hfr:=Vq (L:=L) (ws:=Yy) (st:=st);generalize hk:Zh L Yy st=k at *;generalize hs1:Yd L Yy st=s1 at *;have hle5:k≤5:=hle;have h6:k=0∨k=1∨k=2∨k=3∨k=4∨k=5:=by omega
  clear hk hs1 hle hle5 hp hnp h;rcases h6 with rfl | rfl | rfl | rfl | rfl | rfl
  · -- 0
    have ht0:∀ w,PAt w q c r K L st→Calls Φ 99 #[Ji c st,Ψ ⟨#[99,111,117,110,116]⟩] w (Xw w q c r K L st (.bool false)):=fun w h=>by have e:isS L ⟨#[99,111,117,110,116]⟩ st=false:=fi0 rfl 0 (by decide);have h1:=Zbn w q c r K L st ⟨#[99,111,117,110,116]⟩ h;rw[e,Ux e]at h1;exact h1
    have ht1:∀ w,PAt w q c r K L st→Calls Φ 99 #[Ji c st,Ψ ⟨#[115,117,109]⟩] w (Xw w q c r K L st (.bool false)):=fun w h=>by have e:isS L ⟨#[115,117,109]⟩ st=false:=fi0 rfl 1 (by decide);have h1:=Zbn w q c r K L st ⟨#[115,117,109]⟩ h;rw[e,Ux e]at h1;exact h1
    have ht2:∀ w,PAt w q c r K L st→Calls Φ 99 #[Ji c st,Ψ ⟨#[114,111,117,110,100]⟩] w (Xw w q c r K L st (.bool false)):=fun w h=>by have e:isS L ⟨#[114,111,117,110,100]⟩ st=false:=fi0 rfl 2 (by decide);have h1:=Zbn w q c r K L st ⟨#[114,111,117,110,100]⟩ h;rw[e,Ux e]at h1;exact h1
    have ht3:∀ w,PAt w q c r K L st→Calls Φ 99 #[Ji c st,Ψ ⟨#[104,97,110,100]⟩] w (Xw w q c r K L st (.bool false)):=fun w h=>by have e:isS L ⟨#[104,97,110,100]⟩ st=false:=fi0 rfl 3 (by decide);have h1:=Zbn w q c r K L st ⟨#[104,97,110,100]⟩ h;rw[e,Ux e]at h1;exact h1
    have ht4:∀ w,PAt w q c r K L st→Calls Φ 99 #[Ji c st,Ψ ⟨#[102,114,101,101]⟩] w (Xw w q c r K L st (.bool false)):=fun w h=>by have e:isS L ⟨#[102,114,101,101]⟩ st=false:=fi0 rfl 4 (by decide);have h1:=Zbn w q c r K L st ⟨#[102,114,101,101]⟩ h;rw[e,Ux e]at h1;exact h1
    generalize hsg:Zbe L st=sg at *;have hrd:∀ w,PAt w q c r K L st→Calls Φ 133 #[Ω (some ⟨q,0,none⟩),.func (.func 134) #[Ji c st] #[]] w (Xw w q c r K L (Zae L st) (I J sg)):=fun w h=>by rw[←hsg];exact Zkj w q c r K L st h
    rw[if_pos rfl];clear hsg fi0 fi1 hfn hfr hn hLn ih;go_enter Tryz.func98,Tryz.ntmps98;go_wp2_with(first
 |(go_at_call 128;refine(his _ M0.out.at_).mono ?_;rintro e w1 ⟨rfl,b1⟩
   have R1:=Hh (R0.out.below b1 R0.out.inside);have T1:=Hh (T0.out.below b1 T0.out.inside);have M1:=Hh (M0.out.next b1);have hz1:w.heap.size+2≤w1.heap.size:=by have:=b1.size;(try simp at this);omega
   have hcell:=M1.out.at_.cell;clear b1)
 |(go_at_call 99;(with_reducible refine(ht0 _ ?_).mono ?_);exact M1.out.at_;rintro e w2 ⟨rfl,m2⟩
   have R2:=Hh (m2.keeps.whole R1.out (by omega));have T2:=Hh (m2.keeps.whole T1.out (by omega));have M2:=Hh (M1.out.then m2);have hz2:=Ξ hz1 m2.keeps.size;have hcell:=M2.out.at_.cell;clear m2)
 |(go_at_call 99;(with_reducible refine(ht1 _ ?_).mono ?_);exact M2.out.at_;rintro e w3 ⟨rfl,m3⟩
   have R3:=Hh (m3.keeps.whole R2.out (by omega));have T3:=Hh (m3.keeps.whole T2.out (by omega));have M3:=Hh (M2.out.then m3);have hz3:=Ξ hz2 m3.keeps.size;have hcell:=M3.out.at_.cell;clear m3)
 |(go_at_call 99;(with_reducible refine(ht2 _ ?_).mono ?_);exact M3.out.at_;rintro e w4 ⟨rfl,m4⟩
   have R4:=Hh (m4.keeps.whole R3.out (by omega));have T4:=Hh (m4.keeps.whole T3.out (by omega));have M4:=Hh (M3.out.then m4);have hz4:=Ξ hz3 m4.keeps.size;have hcell:=M4.out.at_.cell;clear m4)
 |(go_at_call 99;(with_reducible refine(ht3 _ ?_).mono ?_);exact M4.out.at_;rintro e w5 ⟨rfl,m5⟩
   have R5:=Hh (m5.keeps.whole R4.out (by omega));have T5:=Hh (m5.keeps.whole T4.out (by omega));have M5:=Hh (M4.out.then m5);have hz5:=Ξ hz4 m5.keeps.size;have hcell:=M5.out.at_.cell;clear m5)
 |(go_at_call 99;(with_reducible refine(ht4 _ ?_).mono ?_);exact M5.out.at_;rintro e w6 ⟨rfl,m6⟩
   have R6:=Hh (m6.keeps.whole R5.out (by omega));have T6:=Hh (m6.keeps.whole T5.out (by omega));have M6:=Hh (M5.out.then m6);have hz6:=Ξ hz5 m6.keeps.size;have hcell:=M6.out.at_.cell;clear m6)
 |((with_reducible refine Js ?_);refine Zm 3 _ (.const (I J 1)) 54 (w.heap.size+1) 0 [] (I J 0) (I J 1) ([I J 0,I J 0,I J 0,I J 0,I J 0,Λ none 0 0,I J 0,I J 0,I J 0,I J 0,Λ none 0 0]) (show Ze _ _ _ _ from T6.out) rfl Yk rfl rfl rfl rfl rfl rfl ?_
   intro w7 p7;have T7:=Hh (show Ze w7 (w.heap.size+1) 54 ([I J 1,I J 0,I J 0,I J 0,I J 0,I J 0,Λ none 0 0,I J 0,I J 0,I J 0,I J 0,Λ none 0 0]).toArray from by first | exact p7.whole | simpa using p7.whole);have R7:=Hh (p7.keeps.whole R6.out (by omega));have M7:=Hh (M6.out.put p7 (by omega) qin cin rin);have hz7:=Ξ hz6 p7.keeps.size;have hcell:=M7.out.at_.cell;clear p7)
 |(go_at_call 133;refine(hrd _ M7.out.at_).mono ?_;rintro e w8 ⟨rfl,m8⟩
   have R8:=Hh (m8.keeps.whole R7.out (by omega));have T8:=Hh (m8.keeps.whole T7.out (by omega));have M8:=Hh (M7.out.then m8);have hz8:=Ξ hz7 m8.keeps.size;have hcell:=M8.out.at_.cell;clear m8)
 |((with_reducible refine Zi 12 11 ?_);refine Zm 3 _ _ 54 (w.heap.size+1) 1 [I J 1] (I J 0) (I J sg) ([I J 0,I J 0,I J 0,I J 0,Λ none 0 0,I J 0,I J 0,I J 0,I J 0,Λ none 0 0]) (show Ze _ _ _ _ from T8.out) rfl Yk rfl rfl rfl rfl rfl rfl ?_
   intro w9 p9;have T9:=Hh (show Ze w9 (w.heap.size+1) 54 ([I J 1,I J sg,I J 0,I J 0,I J 0,I J 0,Λ none 0 0,I J 0,I J 0,I J 0,I J 0,Λ none 0 0]).toArray from by first | exact p9.whole | simpa using p9.whole);have R9:=Hh (p9.keeps.whole R8.out (by omega));have M9:=Hh (M8.out.put p9 (by omega) qin cin rin);have hz9:=Ξ hz8 p9.keeps.size;have hcell:=M9.out.at_.cell;clear p9)
 |((with_reducible refine Zd 71 ?_);refine Zb 54 _ 54 (w.heap.size+1) _ T9.out Xk (Wz (show Zt (fun k=>w.heap.size+2≤k) w9 _ ([I J 1,I J sg,I J 0,I J 0,I J 0,I J 0,Λ none 0 0,I J 0,I J 0,I J 0,I J 0,Λ none 0 0])from Ys 1 sg zSe 0 0 0 (Wb _ _)).len12) rfl rfl rfl ?_)
 |((with_reducible refine Zi 2 71 ?_);refine Za 54 _ _ 54 (w.heap.size) _ ([I J 1,I J sg,I J 0,I J 0,I J 0,I J 0,Λ none 0 0,I J 0,I J 0,I J 0,I J 0,Λ none 0 0]) R9.out (show Zt (fun k=>w.heap.size+2≤k) w9 _ ([I J 1,I J sg,I J 0,I J 0,I J 0,I J 0,Λ none 0 0,I J 0,I J 0,I J 0,I J 0,Λ none 0 0])from Ys 1 sg zSe 0 0 0 (Wb _ _)).len12 (Wz (show Zt (fun k=>w.heap.size+2≤k) w9 _ ([I J 1,I J sg,I J 0,I J 0,I J 0,I J 0,Λ none 0 0,I J 0,I J 0,I J 0,I J 0,Λ none 0 0])from Ys 1 sg zSe 0 0 0 (Wb _ _)).len12) (show Zt (fun k=>w.heap.size+2≤k) w9 _ ([I J 1,I J sg,I J 0,I J 0,I J 0,I J 0,Λ none 0 0,I J 0,I J 0,I J 0,I J 0,Λ none 0 0])from Ys 1 sg zSe 0 0 0 (Wb _ _)).one rfl rfl rfl rfl rfl ?_
   intro w10 p10;have R10:=Hh p10.whole;have T10:=Hh (p10.keeps.whole T9.out (by omega));have M10:=Hh (M9.out.put p10 (by omega) qin cin rin);have hz10:=Ξ hz9 p10.keeps.size;have hcell:=M10.out.at_.cell
   clear p10))
    exact Wu 2 54 54 w.heap.size _ rfl R10.out Xk (Wz (show Zt (fun k=>w.heap.size+2≤k) w10 _ ([I J 1,I J sg,I J 0,I J 0,I J 0,I J 0,Λ none 0 0,I J 0,I J 0,I J 0,I J 0,Λ none 0 0])from Ys 1 sg zSe 0 0 0 (Wb _ _)).len12) rfl rfl ⟨_,rfl,Zt.lower (show Zt (fun k=>w.heap.size+2≤k) w10 _ ([I J 1,I J sg,I J 0,I J 0,I J 0,I J 0,Λ none 0 0,I J 0,I J 0,I J 0,I J 0,Λ none 0 0])from Ys 1 sg zSe 0 0 0 (Wb _ _)) (by omega),M10.out⟩
  · -- 1
    have htk:∀ w,PAt w q c r K L st→Calls Φ 99 #[Ji c st,Ψ ⟨#[99,111,117,110,116]⟩] w (Xw w q c r K L s1 (.bool true)):=fun w h=>by have e:=(fi1 0 rfl).2;have e1:isS L ⟨#[99,111,117,110,116]⟩ st=true:=e.1;have e2:s1=Wf L ⟨#[99,111,117,110,116]⟩ st:=e.2;have h1:=Zbn w q c r K L st ⟨#[99,111,117,110,116]⟩ h;rw[e1,←e2]at h1;exact h1
    rw[if_neg (by decide),if_pos (by decide)];have hrf:=hfr (by decide);have hse:∀ w,PAt w q c r K L s1→Calls Φ 130 #[Ω (some ⟨q,0,none⟩)] w (Zac w q c r K L (Wa 5 L n s1).2 (Wa 5 L n s1).1.ds):=fun w h=>xsel w q c r K L s1 n h (by omega) (by omega)
    generalize Wa 5 L n s1=x at *;clear fi0 fi1 hfn hfr hrf hn hLn ih;go_enter Tryz.func98,Tryz.ntmps98;go_wp2_with(first
 |(go_at_call 128;refine(his _ M0.out.at_).mono ?_;rintro e w1 ⟨rfl,b1⟩
   have R1:=Hh (R0.out.below b1 R0.out.inside);have T1:=Hh (T0.out.below b1 T0.out.inside);have M1:=Hh (M0.out.next b1);have hz1:w.heap.size+2≤w1.heap.size:=by have:=b1.size;(try simp at this);omega
   have hcell:=M1.out.at_.cell;clear b1)
 |(go_at_call 99;(with_reducible refine(htk _ ?_).mono ?_);exact M1.out.at_;rintro e w2 ⟨rfl,m2⟩
   have R2:=Hh (m2.keeps.whole R1.out (by omega));have T2:=Hh (m2.keeps.whole T1.out (by omega));have M2:=Hh (M1.out.then m2);have hz2:=Ξ hz1 m2.keeps.size;have hcell:=M2.out.at_.cell;clear m2)
 |((with_reducible refine Js ?_);refine Zm 3 _ (.const (I J 2)) 54 (w.heap.size+1) 0 [] (I J 0) (I J 2) ([I J 0,I J 0,I J 0,I J 0,I J 0,Λ none 0 0,I J 0,I J 0,I J 0,I J 0,Λ none 0 0]) (show Ze _ _ _ _ from T2.out) rfl Yk rfl rfl rfl rfl rfl rfl ?_
   intro w3 p3;have T3:=Hh (show Ze w3 (w.heap.size+1) 54 ([I J 2,I J 0,I J 0,I J 0,I J 0,I J 0,Λ none 0 0,I J 0,I J 0,I J 0,I J 0,Λ none 0 0]).toArray from by first | exact p3.whole | simpa using p3.whole);have R3:=Hh (p3.keeps.whole R2.out (by omega));have M3:=Hh (M2.out.put p3 (by omega) qin cin rin);have hz3:=Ξ hz2 p3.keeps.size;have hcell:=M3.out.at_.cell;clear p3)
 |(go_at_call 130;refine(hse _ M3.out.at_).mono ?_;rintro e w4 ⟨sv,rfl,d4,m4⟩
   have R4:=Hh (m4.keeps.whole R3.out (by omega));have T4:=Hh (m4.keeps.whole T3.out (by omega));have M4:=Hh (M3.out.then m4);have hz4:=Ξ hz3 m4.keeps.size;have hcell:=M4.out.at_.cell;have S4:=Hh (d4.lower (show w.heap.size+2≤_ by first | omega | (simp;done) | (simp;omega)));have SL:=Hh d4.len;clear m4 d4)
 |((with_reducible refine Zi 30 29 ?_);refine Xo 49 _ _ 54 (w.heap.size+1) 2 ([I J 2,I J 0]) ([I J 0,I J 0,I J 0,I J 0,Λ none 0 0,I J 0]) ([I J 0,I J 0,I J 0,Λ none 0 0]) (sv) (by first | exact T4.out | simpa using T4.out) S4.out.len6 rfl (size_sel' S4.out.len6) S4.out.one rfl rfl rfl rfl rfl ?_
   intro w5 p5;have T5:=Hh (show Ze w5 (w.heap.size+1) 54 (([I J 2,I J 0]:List Value)++(sv:List Value)++([I J 0,I J 0,I J 0,Λ none 0 0]:List Value)).toArray from by first | exact p5.whole | simpa using p5.whole);have R5:=Hh (p5.keeps.whole R4.out (by omega));have S5:=Hh (S4.out.put p5 (by omega));have M5:=Hh (M4.out.put p5 (by omega) qin cin rin);have hz5:=Ξ hz4 p5.keeps.size;have hcell:=M5.out.at_.cell;clear p5)
 |((with_reducible refine Zd 71 ?_);refine Zb 54 _ 54 (w.heap.size+1) _ T5.out Xk (Wz (show Zt (fun k=>w.heap.size+2≤k) w5 _ (([I J 2,I J 0]:List Value)++(sv:List Value)++([I J 0,I J 0,I J 0,Λ none 0 0]:List Value))from Ys 2 0 x.1 0 0 0 S5.out).len12) rfl rfl rfl ?_)
 |((with_reducible refine Zi 2 71 ?_);refine Za 54 _ _ 54 (w.heap.size) _ (([I J 2,I J 0]:List Value)++(sv:List Value)++([I J 0,I J 0,I J 0,Λ none 0 0]:List Value)) R5.out (show Zt (fun k=>w.heap.size+2≤k) w5 _ (([I J 2,I J 0]:List Value)++(sv:List Value)++([I J 0,I J 0,I J 0,Λ none 0 0]:List Value))from Ys 2 0 x.1 0 0 0 S5.out).len12 (Wz (show Zt (fun k=>w.heap.size+2≤k) w5 _ (([I J 2,I J 0]:List Value)++(sv:List Value)++([I J 0,I J 0,I J 0,Λ none 0 0]:List Value))from Ys 2 0 x.1 0 0 0 S5.out).len12) (show Zt (fun k=>w.heap.size+2≤k) w5 _ (([I J 2,I J 0]:List Value)++(sv:List Value)++([I J 0,I J 0,I J 0,Λ none 0 0]:List Value))from Ys 2 0 x.1 0 0 0 S5.out).one rfl rfl rfl rfl rfl ?_
   intro w6 p6;have R6:=Hh p6.whole;have T6:=Hh (p6.keeps.whole T5.out (by omega));have S6:=Hh (S5.out.put p6 (by omega));have M6:=Hh (M5.out.put p6 (by omega) qin cin rin);have hz6:=Ξ hz5 p6.keeps.size;have hcell:=M6.out.at_.cell
   clear p6))
    exact Wu 2 54 54 w.heap.size _ rfl R6.out Xk (Wz (show Zt (fun k=>w.heap.size+2≤k) w6 _ (([I J 2,I J 0]:List Value)++(sv:List Value)++([I J 0,I J 0,I J 0,Λ none 0 0]:List Value))from Ys 2 0 x.1 0 0 0 S6.out).len12) rfl rfl ⟨_,rfl,Zt.lower (show Zt (fun k=>w.heap.size+2≤k) w6 _ (([I J 2,I J 0]:List Value)++(sv:List Value)++([I J 0,I J 0,I J 0,Λ none 0 0]:List Value))from Ys 2 0 x.1 0 0 0 S6.out) (by omega),M6.out⟩
  · -- 2
    have ht0:∀ w,PAt w q c r K L st→Calls Φ 99 #[Ji c st,Ψ ⟨#[99,111,117,110,116]⟩] w (Xw w q c r K L st (.bool false)):=fun w h=>by have e:isS L ⟨#[99,111,117,110,116]⟩ st=false:=(fi1 1 rfl).1 0 (by decide);have h1:=Zbn w q c r K L st ⟨#[99,111,117,110,116]⟩ h;rw[e,Ux e]at h1;exact h1
    have htk:∀ w,PAt w q c r K L st→Calls Φ 99 #[Ji c st,Ψ ⟨#[115,117,109]⟩] w (Xw w q c r K L s1 (.bool true)):=fun w h=>by have e:=(fi1 1 rfl).2;have e1:isS L ⟨#[115,117,109]⟩ st=true:=e.1;have e2:s1=Wf L ⟨#[115,117,109]⟩ st:=e.2;have h1:=Zbn w q c r K L st ⟨#[115,117,109]⟩ h;rw[e1,←e2]at h1;exact h1
    rw[if_neg (by decide),if_pos (by decide)];have hrf:=hfr (by decide);have hse:∀ w,PAt w q c r K L s1→Calls Φ 130 #[Ω (some ⟨q,0,none⟩)] w (Zac w q c r K L (Wa 5 L n s1).2 (Wa 5 L n s1).1.ds):=fun w h=>xsel w q c r K L s1 n h (by omega) (by omega)
    generalize Wa 5 L n s1=x at *;clear fi0 fi1 hfn hfr hrf hn hLn ih;go_enter Tryz.func98,Tryz.ntmps98;go_wp2_with(first
 |(go_at_call 128;refine(his _ M0.out.at_).mono ?_;rintro e w1 ⟨rfl,b1⟩
   have R1:=Hh (R0.out.below b1 R0.out.inside);have T1:=Hh (T0.out.below b1 T0.out.inside);have M1:=Hh (M0.out.next b1);have hz1:w.heap.size+2≤w1.heap.size:=by have:=b1.size;(try simp at this);omega
   have hcell:=M1.out.at_.cell;clear b1)
 |(go_at_call 99;(with_reducible refine(ht0 _ ?_).mono ?_);exact M1.out.at_;rintro e w2 ⟨rfl,m2⟩
   have R2:=Hh (m2.keeps.whole R1.out (by omega));have T2:=Hh (m2.keeps.whole T1.out (by omega));have M2:=Hh (M1.out.then m2);have hz2:=Ξ hz1 m2.keeps.size;have hcell:=M2.out.at_.cell;clear m2)
 |(go_at_call 99;(with_reducible refine(htk _ ?_).mono ?_);exact M2.out.at_;rintro e w3 ⟨rfl,m3⟩
   have R3:=Hh (m3.keeps.whole R2.out (by omega));have T3:=Hh (m3.keeps.whole T2.out (by omega));have M3:=Hh (M2.out.then m3);have hz3:=Ξ hz2 m3.keeps.size;have hcell:=M3.out.at_.cell;clear m3)
 |((with_reducible refine Js ?_);refine Zm 3 _ (.const (I J 3)) 54 (w.heap.size+1) 0 [] (I J 0) (I J 3) ([I J 0,I J 0,I J 0,I J 0,I J 0,Λ none 0 0,I J 0,I J 0,I J 0,I J 0,Λ none 0 0]) (show Ze _ _ _ _ from T3.out) rfl Yk rfl rfl rfl rfl rfl rfl ?_
   intro w4 p4;have T4:=Hh (show Ze w4 (w.heap.size+1) 54 ([I J 3,I J 0,I J 0,I J 0,I J 0,I J 0,Λ none 0 0,I J 0,I J 0,I J 0,I J 0,Λ none 0 0]).toArray from by first | exact p4.whole | simpa using p4.whole);have R4:=Hh (p4.keeps.whole R3.out (by omega));have M4:=Hh (M3.out.put p4 (by omega) qin cin rin);have hz4:=Ξ hz3 p4.keeps.size;have hcell:=M4.out.at_.cell;clear p4)
 |(go_at_call 130;refine(hse _ M4.out.at_).mono ?_;rintro e w5 ⟨sv,rfl,d5,m5⟩
   have R5:=Hh (m5.keeps.whole R4.out (by omega));have T5:=Hh (m5.keeps.whole T4.out (by omega));have M5:=Hh (M4.out.then m5);have hz5:=Ξ hz4 m5.keeps.size;have hcell:=M5.out.at_.cell;have S5:=Hh (d5.lower (show w.heap.size+2≤_ by first | omega | (simp;done) | (simp;omega)));have SL:=Hh d5.len;clear m5 d5)
 |((with_reducible refine Zi 40 39 ?_);refine Xo 49 _ _ 54 (w.heap.size+1) 2 ([I J 3,I J 0]) ([I J 0,I J 0,I J 0,I J 0,Λ none 0 0,I J 0]) ([I J 0,I J 0,I J 0,Λ none 0 0]) (sv) (by first | exact T5.out | simpa using T5.out) S5.out.len6 rfl (size_sel' S5.out.len6) S5.out.one rfl rfl rfl rfl rfl ?_
   intro w6 p6;have T6:=Hh (show Ze w6 (w.heap.size+1) 54 (([I J 3,I J 0]:List Value)++(sv:List Value)++([I J 0,I J 0,I J 0,Λ none 0 0]:List Value)).toArray from by first | exact p6.whole | simpa using p6.whole);have R6:=Hh (p6.keeps.whole R5.out (by omega));have S6:=Hh (S5.out.put p6 (by omega));have M6:=Hh (M5.out.put p6 (by omega) qin cin rin);have hz6:=Ξ hz5 p6.keeps.size;have hcell:=M6.out.at_.cell;clear p6)
 |((with_reducible refine Zd 71 ?_);refine Zb 54 _ 54 (w.heap.size+1) _ T6.out Xk (Wz (show Zt (fun k=>w.heap.size+2≤k) w6 _ (([I J 3,I J 0]:List Value)++(sv:List Value)++([I J 0,I J 0,I J 0,Λ none 0 0]:List Value))from Ys 3 0 x.1 0 0 0 S6.out).len12) rfl rfl rfl ?_)
 |((with_reducible refine Zi 2 71 ?_);refine Za 54 _ _ 54 (w.heap.size) _ (([I J 3,I J 0]:List Value)++(sv:List Value)++([I J 0,I J 0,I J 0,Λ none 0 0]:List Value)) R6.out (show Zt (fun k=>w.heap.size+2≤k) w6 _ (([I J 3,I J 0]:List Value)++(sv:List Value)++([I J 0,I J 0,I J 0,Λ none 0 0]:List Value))from Ys 3 0 x.1 0 0 0 S6.out).len12 (Wz (show Zt (fun k=>w.heap.size+2≤k) w6 _ (([I J 3,I J 0]:List Value)++(sv:List Value)++([I J 0,I J 0,I J 0,Λ none 0 0]:List Value))from Ys 3 0 x.1 0 0 0 S6.out).len12) (show Zt (fun k=>w.heap.size+2≤k) w6 _ (([I J 3,I J 0]:List Value)++(sv:List Value)++([I J 0,I J 0,I J 0,Λ none 0 0]:List Value))from Ys 3 0 x.1 0 0 0 S6.out).one rfl rfl rfl rfl rfl ?_
   intro w7 p7;have R7:=Hh p7.whole;have T7:=Hh (p7.keeps.whole T6.out (by omega));have S7:=Hh (S6.out.put p7 (by omega));have M7:=Hh (M6.out.put p7 (by omega) qin cin rin);have hz7:=Ξ hz6 p7.keeps.size;have hcell:=M7.out.at_.cell
   clear p7))
    exact Wu 2 54 54 w.heap.size _ rfl R7.out Xk (Wz (show Zt (fun k=>w.heap.size+2≤k) w7 _ (([I J 3,I J 0]:List Value)++(sv:List Value)++([I J 0,I J 0,I J 0,Λ none 0 0]:List Value))from Ys 3 0 x.1 0 0 0 S7.out).len12) rfl rfl ⟨_,rfl,Zt.lower (show Zt (fun k=>w.heap.size+2≤k) w7 _ (([I J 3,I J 0]:List Value)++(sv:List Value)++([I J 0,I J 0,I J 0,Λ none 0 0]:List Value))from Ys 3 0 x.1 0 0 0 S7.out) (by omega),M7.out⟩
  · -- 3
    have ht0:∀ w,PAt w q c r K L st→Calls Φ 99 #[Ji c st,Ψ ⟨#[99,111,117,110,116]⟩] w (Xw w q c r K L st (.bool false)):=fun w h=>by have e:isS L ⟨#[99,111,117,110,116]⟩ st=false:=(fi1 2 rfl).1 0 (by decide);have h1:=Zbn w q c r K L st ⟨#[99,111,117,110,116]⟩ h;rw[e,Ux e]at h1;exact h1
    have ht1:∀ w,PAt w q c r K L st→Calls Φ 99 #[Ji c st,Ψ ⟨#[115,117,109]⟩] w (Xw w q c r K L st (.bool false)):=fun w h=>by have e:isS L ⟨#[115,117,109]⟩ st=false:=(fi1 2 rfl).1 1 (by decide);have h1:=Zbn w q c r K L st ⟨#[115,117,109]⟩ h;rw[e,Ux e]at h1;exact h1
    have htk:∀ w,PAt w q c r K L st→Calls Φ 99 #[Ji c st,Ψ ⟨#[114,111,117,110,100]⟩] w (Xw w q c r K L s1 (.bool true)):=fun w h=>by have e:=(fi1 2 rfl).2;have e1:isS L ⟨#[114,111,117,110,100]⟩ st=true:=e.1;have e2:s1=Wf L ⟨#[114,111,117,110,100]⟩ st:=e.2;have h1:=Zbn w q c r K L st ⟨#[114,111,117,110,100]⟩ h;rw[e1,←e2]at h1;exact h1
    rw[if_neg (by decide),if_neg (by decide),if_pos rfl];clear fi0 fi1 hfn hfr hn hLn ih;go_enter Tryz.func98,Tryz.ntmps98;go_wp2_with(first
 |(go_at_call 128;refine(his _ M0.out.at_).mono ?_;rintro e w1 ⟨rfl,b1⟩
   have R1:=Hh (R0.out.below b1 R0.out.inside);have T1:=Hh (T0.out.below b1 T0.out.inside);have M1:=Hh (M0.out.next b1);have hz1:w.heap.size+2≤w1.heap.size:=by have:=b1.size;(try simp at this);omega
   have hcell:=M1.out.at_.cell;clear b1)
 |(go_at_call 99;(with_reducible refine(ht0 _ ?_).mono ?_);exact M1.out.at_;rintro e w2 ⟨rfl,m2⟩
   have R2:=Hh (m2.keeps.whole R1.out (by omega));have T2:=Hh (m2.keeps.whole T1.out (by omega));have M2:=Hh (M1.out.then m2);have hz2:=Ξ hz1 m2.keeps.size;have hcell:=M2.out.at_.cell;clear m2)
 |(go_at_call 99;(with_reducible refine(ht1 _ ?_).mono ?_);exact M2.out.at_;rintro e w3 ⟨rfl,m3⟩
   have R3:=Hh (m3.keeps.whole R2.out (by omega));have T3:=Hh (m3.keeps.whole T2.out (by omega));have M3:=Hh (M2.out.then m3);have hz3:=Ξ hz2 m3.keeps.size;have hcell:=M3.out.at_.cell;clear m3)
 |(go_at_call 99;(with_reducible refine(htk _ ?_).mono ?_);exact M3.out.at_;rintro e w4 ⟨rfl,m4⟩
   have R4:=Hh (m4.keeps.whole R3.out (by omega));have T4:=Hh (m4.keeps.whole T3.out (by omega));have M4:=Hh (M3.out.then m4);have hz4:=Ξ hz3 m4.keeps.size;have hcell:=M4.out.at_.cell;clear m4)
 |((with_reducible refine Js ?_);refine Zm 3 _ (.const (I J 4)) 54 (w.heap.size+1) 0 [] (I J 0) (I J 4) ([I J 0,I J 0,I J 0,I J 0,I J 0,Λ none 0 0,I J 0,I J 0,I J 0,I J 0,Λ none 0 0]) (show Ze _ _ _ _ from T4.out) rfl Yk rfl rfl rfl rfl rfl rfl ?_
   intro w5 p5;have T5:=Hh (show Ze w5 (w.heap.size+1) 54 ([I J 4,I J 0,I J 0,I J 0,I J 0,I J 0,Λ none 0 0,I J 0,I J 0,I J 0,I J 0,Λ none 0 0]).toArray from by first | exact p5.whole | simpa using p5.whole);have R5:=Hh (p5.keeps.whole R4.out (by omega));have M5:=Hh (M4.out.put p5 (by omega) qin cin rin);have hz5:=Ξ hz4 p5.keeps.size;have hcell:=M5.out.at_.cell;clear p5)
 |((with_reducible refine Zd 71 ?_);refine Zb 54 _ 54 (w.heap.size+1) _ T5.out Xk (Wz (show Zt (fun k=>w.heap.size+2≤k) w5 _ ([I J 4,I J 0,I J 0,I J 0,I J 0,I J 0,Λ none 0 0,I J 0,I J 0,I J 0,I J 0,Λ none 0 0])from Ys 4 0 zSe 0 0 0 (Wb _ _)).len12) rfl rfl rfl ?_)
 |((with_reducible refine Zi 2 71 ?_);refine Za 54 _ _ 54 (w.heap.size) _ ([I J 4,I J 0,I J 0,I J 0,I J 0,I J 0,Λ none 0 0,I J 0,I J 0,I J 0,I J 0,Λ none 0 0]) R5.out (show Zt (fun k=>w.heap.size+2≤k) w5 _ ([I J 4,I J 0,I J 0,I J 0,I J 0,I J 0,Λ none 0 0,I J 0,I J 0,I J 0,I J 0,Λ none 0 0])from Ys 4 0 zSe 0 0 0 (Wb _ _)).len12 (Wz (show Zt (fun k=>w.heap.size+2≤k) w5 _ ([I J 4,I J 0,I J 0,I J 0,I J 0,I J 0,Λ none 0 0,I J 0,I J 0,I J 0,I J 0,Λ none 0 0])from Ys 4 0 zSe 0 0 0 (Wb _ _)).len12) (show Zt (fun k=>w.heap.size+2≤k) w5 _ ([I J 4,I J 0,I J 0,I J 0,I J 0,I J 0,Λ none 0 0,I J 0,I J 0,I J 0,I J 0,Λ none 0 0])from Ys 4 0 zSe 0 0 0 (Wb _ _)).one rfl rfl rfl rfl rfl ?_
   intro w6 p6;have R6:=Hh p6.whole;have T6:=Hh (p6.keeps.whole T5.out (by omega));have M6:=Hh (M5.out.put p6 (by omega) qin cin rin);have hz6:=Ξ hz5 p6.keeps.size;have hcell:=M6.out.at_.cell
   clear p6))
    exact Wu 2 54 54 w.heap.size _ rfl R6.out Xk (Wz (show Zt (fun k=>w.heap.size+2≤k) w6 _ ([I J 4,I J 0,I J 0,I J 0,I J 0,I J 0,Λ none 0 0,I J 0,I J 0,I J 0,I J 0,Λ none 0 0])from Ys 4 0 zSe 0 0 0 (Wb _ _)).len12) rfl rfl ⟨_,rfl,Zt.lower (show Zt (fun k=>w.heap.size+2≤k) w6 _ ([I J 4,I J 0,I J 0,I J 0,I J 0,I J 0,Λ none 0 0,I J 0,I J 0,I J 0,I J 0,Λ none 0 0])from Ys 4 0 zSe 0 0 0 (Wb _ _)) (by omega),M6.out⟩
  · -- 4
    have ht0:∀ w,PAt w q c r K L st→Calls Φ 99 #[Ji c st,Ψ ⟨#[99,111,117,110,116]⟩] w (Xw w q c r K L st (.bool false)):=fun w h=>by have e:isS L ⟨#[99,111,117,110,116]⟩ st=false:=(fi1 3 rfl).1 0 (by decide);have h1:=Zbn w q c r K L st ⟨#[99,111,117,110,116]⟩ h;rw[e,Ux e]at h1;exact h1
    have ht1:∀ w,PAt w q c r K L st→Calls Φ 99 #[Ji c st,Ψ ⟨#[115,117,109]⟩] w (Xw w q c r K L st (.bool false)):=fun w h=>by have e:isS L ⟨#[115,117,109]⟩ st=false:=(fi1 3 rfl).1 1 (by decide);have h1:=Zbn w q c r K L st ⟨#[115,117,109]⟩ h;rw[e,Ux e]at h1;exact h1
    have ht2:∀ w,PAt w q c r K L st→Calls Φ 99 #[Ji c st,Ψ ⟨#[114,111,117,110,100]⟩] w (Xw w q c r K L st (.bool false)):=fun w h=>by have e:isS L ⟨#[114,111,117,110,100]⟩ st=false:=(fi1 3 rfl).1 2 (by decide);have h1:=Zbn w q c r K L st ⟨#[114,111,117,110,100]⟩ h;rw[e,Ux e]at h1;exact h1
    have htk:∀ w,PAt w q c r K L st→Calls Φ 99 #[Ji c st,Ψ ⟨#[104,97,110,100]⟩] w (Xw w q c r K L s1 (.bool true)):=fun w h=>by have e:=(fi1 3 rfl).2;have e1:isS L ⟨#[104,97,110,100]⟩ st=true:=e.1;have e2:s1=Wf L ⟨#[104,97,110,100]⟩ st:=e.2;have h1:=Zbn w q c r K L st ⟨#[104,97,110,100]⟩ h;rw[e1,←e2]at h1;exact h1
    rw[if_neg (by decide),if_neg (by decide),if_neg (by decide),if_pos rfl];generalize hsd:Zh L Zg s1=sd at *;generalize hs2:Zp L Zg s1=s2 at *;have hsi:∀ w,PAt w q c r K L s1→Calls Φ 131 #[Ω (some ⟨q,0,none⟩)] w (Xw w q c r K L s2 (I J (sd:Int))):=fun w h=>by rw[←hsd,←hs2];exact xside w q c r K L s1 h
    clear hsd hs2 fi0 fi1 hfn hfr hn hLn ih;go_enter Tryz.func98,Tryz.ntmps98;go_wp2_with(first
 |(go_at_call 128;refine(his _ M0.out.at_).mono ?_;rintro e w1 ⟨rfl,b1⟩
   have R1:=Hh (R0.out.below b1 R0.out.inside);have T1:=Hh (T0.out.below b1 T0.out.inside);have M1:=Hh (M0.out.next b1);have hz1:w.heap.size+2≤w1.heap.size:=by have:=b1.size;(try simp at this);omega
   have hcell:=M1.out.at_.cell;clear b1)
 |(go_at_call 99;(with_reducible refine(ht0 _ ?_).mono ?_);exact M1.out.at_;rintro e w2 ⟨rfl,m2⟩
   have R2:=Hh (m2.keeps.whole R1.out (by omega));have T2:=Hh (m2.keeps.whole T1.out (by omega));have M2:=Hh (M1.out.then m2);have hz2:=Ξ hz1 m2.keeps.size;have hcell:=M2.out.at_.cell;clear m2)
 |(go_at_call 99;(with_reducible refine(ht1 _ ?_).mono ?_);exact M2.out.at_;rintro e w3 ⟨rfl,m3⟩
   have R3:=Hh (m3.keeps.whole R2.out (by omega));have T3:=Hh (m3.keeps.whole T2.out (by omega));have M3:=Hh (M2.out.then m3);have hz3:=Ξ hz2 m3.keeps.size;have hcell:=M3.out.at_.cell;clear m3)
 |(go_at_call 99;(with_reducible refine(ht2 _ ?_).mono ?_);exact M3.out.at_;rintro e w4 ⟨rfl,m4⟩
   have R4:=Hh (m4.keeps.whole R3.out (by omega));have T4:=Hh (m4.keeps.whole T3.out (by omega));have M4:=Hh (M3.out.then m4);have hz4:=Ξ hz3 m4.keeps.size;have hcell:=M4.out.at_.cell;clear m4)
 |(go_at_call 99;(with_reducible refine(htk _ ?_).mono ?_);exact M4.out.at_;rintro e w5 ⟨rfl,m5⟩
   have R5:=Hh (m5.keeps.whole R4.out (by omega));have T5:=Hh (m5.keeps.whole T4.out (by omega));have M5:=Hh (M4.out.then m5);have hz5:=Ξ hz4 m5.keeps.size;have hcell:=M5.out.at_.cell;clear m5)
 |((with_reducible refine Js ?_);refine Zm 3 _ (.const (I J 5)) 54 (w.heap.size+1) 0 [] (I J 0) (I J 5) ([I J 0,I J 0,I J 0,I J 0,I J 0,Λ none 0 0,I J 0,I J 0,I J 0,I J 0,Λ none 0 0]) (show Ze _ _ _ _ from T5.out) rfl Yk rfl rfl rfl rfl rfl rfl ?_
   intro w6 p6;have T6:=Hh (show Ze w6 (w.heap.size+1) 54 ([I J 5,I J 0,I J 0,I J 0,I J 0,I J 0,Λ none 0 0,I J 0,I J 0,I J 0,I J 0,Λ none 0 0]).toArray from by first | exact p6.whole | simpa using p6.whole);have R6:=Hh (p6.keeps.whole R5.out (by omega));have M6:=Hh (M5.out.put p6 (by omega) qin cin rin);have hz6:=Ξ hz5 p6.keeps.size;have hcell:=M6.out.at_.cell;clear p6)
 |(go_at_call 131;refine(hsi _ M6.out.at_).mono ?_;rintro e w7 ⟨rfl,m7⟩
   have R7:=Hh (m7.keeps.whole R6.out (by omega));have T7:=Hh (m7.keeps.whole T6.out (by omega));have M7:=Hh (M6.out.then m7);have hz7:=Ξ hz6 m7.keeps.size;have hcell:=M7.out.at_.cell;clear m7)
 |((with_reducible refine Zi 57 56 ?_);refine Zm 3 _ _ 54 (w.heap.size+1) 8 [I J 5,I J 0,I J 0,I J 0,I J 0,I J 0,Λ none 0 0,I J 0] (I J 0) (I J (sd:Int)) ([I J 0,I J 0,Λ none 0 0]) (show Ze _ _ _ _ from T7.out) rfl Yk rfl rfl rfl rfl rfl rfl ?_
   intro w8 p8;have T8:=Hh (show Ze w8 (w.heap.size+1) 54 ([I J 5,I J 0,I J 0,I J 0,I J 0,I J 0,Λ none 0 0,I J 0,I J (sd:Int),I J 0,I J 0,Λ none 0 0]).toArray from by first | exact p8.whole | simpa using p8.whole);have R8:=Hh (p8.keeps.whole R7.out (by omega));have M8:=Hh (M7.out.put p8 (by omega) qin cin rin);have hz8:=Ξ hz7 p8.keeps.size;have hcell:=M8.out.at_.cell;clear p8)
 |((with_reducible refine Zd 71 ?_);refine Zb 54 _ 54 (w.heap.size+1) _ T8.out Xk (Wz (show Zt (fun k=>w.heap.size+2≤k) w8 _ ([I J 5,I J 0,I J 0,I J 0,I J 0,I J 0,Λ none 0 0,I J 0,I J (sd:Int),I J 0,I J 0,Λ none 0 0])from Ys 5 0 zSe sd 0 0 (Wb _ _)).len12) rfl rfl rfl ?_)
 |((with_reducible refine Zi 2 71 ?_);refine Za 54 _ _ 54 (w.heap.size) _ ([I J 5,I J 0,I J 0,I J 0,I J 0,I J 0,Λ none 0 0,I J 0,I J (sd:Int),I J 0,I J 0,Λ none 0 0]) R8.out (show Zt (fun k=>w.heap.size+2≤k) w8 _ ([I J 5,I J 0,I J 0,I J 0,I J 0,I J 0,Λ none 0 0,I J 0,I J (sd:Int),I J 0,I J 0,Λ none 0 0])from Ys 5 0 zSe sd 0 0 (Wb _ _)).len12 (Wz (show Zt (fun k=>w.heap.size+2≤k) w8 _ ([I J 5,I J 0,I J 0,I J 0,I J 0,I J 0,Λ none 0 0,I J 0,I J (sd:Int),I J 0,I J 0,Λ none 0 0])from Ys 5 0 zSe sd 0 0 (Wb _ _)).len12) (show Zt (fun k=>w.heap.size+2≤k) w8 _ ([I J 5,I J 0,I J 0,I J 0,I J 0,I J 0,Λ none 0 0,I J 0,I J (sd:Int),I J 0,I J 0,Λ none 0 0])from Ys 5 0 zSe sd 0 0 (Wb _ _)).one rfl rfl rfl rfl rfl ?_
   intro w9 p9;have R9:=Hh p9.whole;have T9:=Hh (p9.keeps.whole T8.out (by omega));have M9:=Hh (M8.out.put p9 (by omega) qin cin rin);have hz9:=Ξ hz8 p9.keeps.size;have hcell:=M9.out.at_.cell
   clear p9))
    exact Wu 2 54 54 w.heap.size _ rfl R9.out Xk (Wz (show Zt (fun k=>w.heap.size+2≤k) w9 _ ([I J 5,I J 0,I J 0,I J 0,I J 0,I J 0,Λ none 0 0,I J 0,I J (sd:Int),I J 0,I J 0,Λ none 0 0])from Ys 5 0 zSe sd 0 0 (Wb _ _)).len12) rfl rfl ⟨_,rfl,Zt.lower (show Zt (fun k=>w.heap.size+2≤k) w9 _ ([I J 5,I J 0,I J 0,I J 0,I J 0,I J 0,Λ none 0 0,I J 0,I J (sd:Int),I J 0,I J 0,Λ none 0 0])from Ys 5 0 zSe sd 0 0 (Wb _ _)) (by omega),M9.out⟩
  · -- 5
    have ht0:∀ w,PAt w q c r K L st→Calls Φ 99 #[Ji c st,Ψ ⟨#[99,111,117,110,116]⟩] w (Xw w q c r K L st (.bool false)):=fun w h=>by have e:isS L ⟨#[99,111,117,110,116]⟩ st=false:=(fi1 4 rfl).1 0 (by decide);have h1:=Zbn w q c r K L st ⟨#[99,111,117,110,116]⟩ h;rw[e,Ux e]at h1;exact h1
    have ht1:∀ w,PAt w q c r K L st→Calls Φ 99 #[Ji c st,Ψ ⟨#[115,117,109]⟩] w (Xw w q c r K L st (.bool false)):=fun w h=>by have e:isS L ⟨#[115,117,109]⟩ st=false:=(fi1 4 rfl).1 1 (by decide);have h1:=Zbn w q c r K L st ⟨#[115,117,109]⟩ h;rw[e,Ux e]at h1;exact h1
    have ht2:∀ w,PAt w q c r K L st→Calls Φ 99 #[Ji c st,Ψ ⟨#[114,111,117,110,100]⟩] w (Xw w q c r K L st (.bool false)):=fun w h=>by have e:isS L ⟨#[114,111,117,110,100]⟩ st=false:=(fi1 4 rfl).1 2 (by decide);have h1:=Zbn w q c r K L st ⟨#[114,111,117,110,100]⟩ h;rw[e,Ux e]at h1;exact h1
    have ht3:∀ w,PAt w q c r K L st→Calls Φ 99 #[Ji c st,Ψ ⟨#[104,97,110,100]⟩] w (Xw w q c r K L st (.bool false)):=fun w h=>by have e:isS L ⟨#[104,97,110,100]⟩ st=false:=(fi1 4 rfl).1 3 (by decide);have h1:=Zbn w q c r K L st ⟨#[104,97,110,100]⟩ h;rw[e,Ux e]at h1;exact h1
    have htk:∀ w,PAt w q c r K L st→Calls Φ 99 #[Ji c st,Ψ ⟨#[102,114,101,101]⟩] w (Xw w q c r K L s1 (.bool true)):=fun w h=>by have e:=(fi1 4 rfl).2;have e1:isS L ⟨#[102,114,101,101]⟩ st=true:=e.1;have e2:s1=Wf L ⟨#[102,114,101,101]⟩ st:=e.2;have h1:=Zbn w q c r K L st ⟨#[102,114,101,101]⟩ h;rw[e1,←e2]at h1;exact h1
    rw[if_neg (by decide),if_neg (by decide),if_neg (by decide),if_neg (by decide)];generalize hsd:Zh L Zg s1=sd at *;generalize hs2:Zp L Zg s1=s2 at *;have hsi:∀ w,PAt w q c r K L s1→Calls Φ 131 #[Ω (some ⟨q,0,none⟩)] w (Xw w q c r K L s2 (I J (sd:Int))):=fun w h=>by rw[←hsd,←hs2];exact xside w q c r K L s1 h
    generalize htk1:toK L s2=tk at *;generalize htl1:toL L s2=tl at *;have hto:∀ w,PAt w q c r K L s2→Calls Φ 132 #[Ω (some ⟨q,0,none⟩)] w (Xw w q c r K L (toS L s2) (.agg #[I J tk,I J tl])):=fun w h=>by rw[←htk1,←htl1];exact xto w q c r K L s2 h
    clear hsd hs2 fi0 fi1 hfn hfr hn hLn ih htk1 htl1;go_enter Tryz.func98,Tryz.ntmps98;go_wp2_with(first
 |(go_at_call 128;refine(his _ M0.out.at_).mono ?_;rintro e w1 ⟨rfl,b1⟩
   have R1:=Hh (R0.out.below b1 R0.out.inside);have T1:=Hh (T0.out.below b1 T0.out.inside);have M1:=Hh (M0.out.next b1);have hz1:w.heap.size+2≤w1.heap.size:=by have:=b1.size;(try simp at this);omega
   have hcell:=M1.out.at_.cell;clear b1)
 |(go_at_call 99;(with_reducible refine(ht0 _ ?_).mono ?_);exact M1.out.at_;rintro e w2 ⟨rfl,m2⟩
   have R2:=Hh (m2.keeps.whole R1.out (by omega));have T2:=Hh (m2.keeps.whole T1.out (by omega));have M2:=Hh (M1.out.then m2);have hz2:=Ξ hz1 m2.keeps.size;have hcell:=M2.out.at_.cell;clear m2)
 |(go_at_call 99;(with_reducible refine(ht1 _ ?_).mono ?_);exact M2.out.at_;rintro e w3 ⟨rfl,m3⟩
   have R3:=Hh (m3.keeps.whole R2.out (by omega));have T3:=Hh (m3.keeps.whole T2.out (by omega));have M3:=Hh (M2.out.then m3);have hz3:=Ξ hz2 m3.keeps.size;have hcell:=M3.out.at_.cell;clear m3)
 |(go_at_call 99;(with_reducible refine(ht2 _ ?_).mono ?_);exact M3.out.at_;rintro e w4 ⟨rfl,m4⟩
   have R4:=Hh (m4.keeps.whole R3.out (by omega));have T4:=Hh (m4.keeps.whole T3.out (by omega));have M4:=Hh (M3.out.then m4);have hz4:=Ξ hz3 m4.keeps.size;have hcell:=M4.out.at_.cell;clear m4)
 |(go_at_call 99;(with_reducible refine(ht3 _ ?_).mono ?_);exact M4.out.at_;rintro e w5 ⟨rfl,m5⟩
   have R5:=Hh (m5.keeps.whole R4.out (by omega));have T5:=Hh (m5.keeps.whole T4.out (by omega));have M5:=Hh (M4.out.then m5);have hz5:=Ξ hz4 m5.keeps.size;have hcell:=M5.out.at_.cell;clear m5)
 |(go_at_call 99;(with_reducible refine(htk _ ?_).mono ?_);exact M5.out.at_;rintro e w6 ⟨rfl,m6⟩
   have R6:=Hh (m6.keeps.whole R5.out (by omega));have T6:=Hh (m6.keeps.whole T5.out (by omega));have M6:=Hh (M5.out.then m6);have hz6:=Ξ hz5 m6.keeps.size;have hcell:=M6.out.at_.cell;clear m6)
 |((with_reducible refine Js ?_);refine Zm 3 _ (.const (I J 6)) 54 (w.heap.size+1) 0 [] (I J 0) (I J 6) ([I J 0,I J 0,I J 0,I J 0,I J 0,Λ none 0 0,I J 0,I J 0,I J 0,I J 0,Λ none 0 0]) (show Ze _ _ _ _ from T6.out) rfl Yk rfl rfl rfl rfl rfl rfl ?_
   intro w7 p7;have T7:=Hh (show Ze w7 (w.heap.size+1) 54 ([I J 6,I J 0,I J 0,I J 0,I J 0,I J 0,Λ none 0 0,I J 0,I J 0,I J 0,I J 0,Λ none 0 0]).toArray from by first | exact p7.whole | simpa using p7.whole);have R7:=Hh (p7.keeps.whole R6.out (by omega));have M7:=Hh (M6.out.put p7 (by omega) qin cin rin);have hz7:=Ξ hz6 p7.keeps.size;have hcell:=M7.out.at_.cell;clear p7)
 |(go_at_call 131;refine(hsi _ M7.out.at_).mono ?_;rintro e w8 ⟨rfl,m8⟩
   have R8:=Hh (m8.keeps.whole R7.out (by omega));have T8:=Hh (m8.keeps.whole T7.out (by omega));have M8:=Hh (M7.out.then m8);have hz8:=Ξ hz7 m8.keeps.size;have hcell:=M8.out.at_.cell;clear m8)
 |((with_reducible refine Zi 67 66 ?_);refine Zm 3 _ _ 54 (w.heap.size+1) 8 [I J 6,I J 0,I J 0,I J 0,I J 0,I J 0,Λ none 0 0,I J 0] (I J 0) (I J (sd:Int)) ([I J 0,I J 0,Λ none 0 0]) (show Ze _ _ _ _ from T8.out) rfl Yk rfl rfl rfl rfl rfl rfl ?_
   intro w9 p9;have T9:=Hh (show Ze w9 (w.heap.size+1) 54 ([I J 6,I J 0,I J 0,I J 0,I J 0,I J 0,Λ none 0 0,I J 0,I J (sd:Int),I J 0,I J 0,Λ none 0 0]).toArray from by first | exact p9.whole | simpa using p9.whole);have R9:=Hh (p9.keeps.whole R8.out (by omega));have M9:=Hh (M8.out.put p9 (by omega) qin cin rin);have hz9:=Ξ hz8 p9.keeps.size;have hcell:=M9.out.at_.cell;clear p9)
 |(go_at_call 132;refine(hto _ M9.out.at_).mono ?_;rintro e w10 ⟨rfl,m10⟩
   have R10:=Hh (m10.keeps.whole R9.out (by omega));have T10:=Hh (m10.keeps.whole T9.out (by omega));have M10:=Hh (M9.out.then m10);have hz10:=Ξ hz9 m10.keeps.size;have hcell:=M10.out.at_.cell;clear m10)
 |((with_reducible refine Zi 70 69 ?_);refine Xo 51 _ _ 54 (w.heap.size+1) 9 ([I J 6,I J 0,I J 0,I J 0,I J 0,I J 0,Λ none 0 0,I J 0,I J (sd:Int)]) ([I J 0,I J 0]) ([Λ none 0 0]) ([I J tk,I J tl]) (by first | exact T10.out | simpa using T10.out) rfl rfl Zad (by simp[Γ]) rfl rfl rfl rfl rfl ?_
   intro w11 p11;have T11:=Hh (show Ze w11 (w.heap.size+1) 54 (([I J 6,I J 0,I J 0,I J 0,I J 0,I J 0,Λ none 0 0,I J 0,I J (sd:Int)]:List Value)++([I J tk,I J tl]:List Value)++([Λ none 0 0]:List Value)).toArray from by first | exact p11.whole | simpa using p11.whole);have R11:=Hh (p11.keeps.whole R10.out (by omega));have M11:=Hh (M10.out.put p11 (by omega) qin cin rin);have hz11:=Ξ hz10 p11.keeps.size;have hcell:=M11.out.at_.cell;clear p11)
 |((with_reducible refine Zd 71 ?_);refine Zb 54 _ 54 (w.heap.size+1) _ T11.out Xk (Wz (show Zt (fun k=>w.heap.size+2≤k) w11 _ (([I J 6,I J 0,I J 0,I J 0,I J 0,I J 0,Λ none 0 0,I J 0,I J (sd:Int)]:List Value)++([I J tk,I J tl]:List Value)++([Λ none 0 0]:List Value))from Ys 6 0 zSe sd tk tl (Wb _ _)).len12) rfl rfl rfl ?_)
 |((with_reducible refine Zi 2 71 ?_);refine Za 54 _ _ 54 (w.heap.size) _ (([I J 6,I J 0,I J 0,I J 0,I J 0,I J 0,Λ none 0 0,I J 0,I J (sd:Int)]:List Value)++([I J tk,I J tl]:List Value)++([Λ none 0 0]:List Value)) R11.out (show Zt (fun k=>w.heap.size+2≤k) w11 _ (([I J 6,I J 0,I J 0,I J 0,I J 0,I J 0,Λ none 0 0,I J 0,I J (sd:Int)]:List Value)++([I J tk,I J tl]:List Value)++([Λ none 0 0]:List Value))from Ys 6 0 zSe sd tk tl (Wb _ _)).len12 (Wz (show Zt (fun k=>w.heap.size+2≤k) w11 _ (([I J 6,I J 0,I J 0,I J 0,I J 0,I J 0,Λ none 0 0,I J 0,I J (sd:Int)]:List Value)++([I J tk,I J tl]:List Value)++([Λ none 0 0]:List Value))from Ys 6 0 zSe sd tk tl (Wb _ _)).len12) (show Zt (fun k=>w.heap.size+2≤k) w11 _ (([I J 6,I J 0,I J 0,I J 0,I J 0,I J 0,Λ none 0 0,I J 0,I J (sd:Int)]:List Value)++([I J tk,I J tl]:List Value)++([Λ none 0 0]:List Value))from Ys 6 0 zSe sd tk tl (Wb _ _)).one rfl rfl rfl rfl rfl ?_
   intro w12 p12;have R12:=Hh p12.whole;have T12:=Hh (p12.keeps.whole T11.out (by omega));have M12:=Hh (M11.out.put p12 (by omega) qin cin rin);have hz12:=Ξ hz11 p12.keeps.size;have hcell:=M12.out.at_.cell
   clear p12))
    exact Wu 2 54 54 w.heap.size _ rfl R12.out Xk (Wz (show Zt (fun k=>w.heap.size+2≤k) w12 _ (([I J 6,I J 0,I J 0,I J 0,I J 0,I J 0,Λ none 0 0,I J 0,I J (sd:Int)]:List Value)++([I J tk,I J tl]:List Value)++([Λ none 0 0]:List Value))from Ys 6 0 zSe sd tk tl (Wb _ _)).len12) rfl rfl ⟨_,rfl,Zt.lower (show Zt (fun k=>w.heap.size+2≤k) w12 _ (([I J 6,I J 0,I J 0,I J 0,I J 0,I J 0,Λ none 0 0,I J 0,I J (sd:Int)]:List Value)++([I J tk,I J tl]:List Value)++([Λ none 0 0]:List Value))from Ys 6 0 zSe sd tk tl (Wb _ _)) (by omega),M12.out⟩
end Go.Proofs.YtdngkgickbaboaaGreat
