/- Parts of the proof. No conditions but those that each names. -/
import Derived.Test.YtdngkgickbaboaaGreatQF13
set_option maxRecDepth 20000
set_option maxHeartbeats 12800000
set_option linter.unusedVariables false
set_option linter.unusedSimpArgs false
namespace Go.Proofs.YtdngkgickbaboaaGreat
open Go.Value renaming int→I,slice→Λ,pointer→Ω,string→Ψ
open Go.IntKind renaming i64→J
open _root_.Go.Proofs.Tryz renaming prog→Φ
open Nat renaming le_refl→Θ
open And renaming intro→ζ
open Go.Ending renaming returned→η
open Go.ChangeShapes Go.WideShapes Go.ChangeAt Go.RowKit
theorem Zlj{w:World}{g:Nat}{t:TypeId}{a0 a1 a2 a3 a4 a5 a6 a7 a8 a9 a10 a11:Value}(h:Ze w g t [a0,a1,a2,a3,a4,a5,a6,a7,a8,a9,a10,a11].toArray) :
  w.cell? ⟨g,0,none⟩=some a0∧w.cell? ⟨g,1,none⟩=some a1∧w.cell? ⟨g,2,none⟩=some a2∧w.cell? ⟨g,3,none⟩=some a3∧w.cell? ⟨g,4,none⟩=some a4∧w.cell? ⟨g,5,none⟩=some a5∧w.cell? ⟨g,6,none⟩=some a6∧w.cell? ⟨g,7,none⟩=some a7∧w.cell? ⟨g,8,none⟩=some a8∧w.cell? ⟨g,9,none⟩=some a9∧w.cell? ⟨g,10,none⟩=some a10∧w.cell? ⟨g,11,none⟩=some a11 ∧
  w.frozen? ⟨g,0,none⟩=false∧w.frozen? ⟨g,1,none⟩=false∧w.frozen? ⟨g,2,none⟩=false∧w.frozen? ⟨g,3,none⟩=false∧w.frozen? ⟨g,4,none⟩=false∧w.frozen? ⟨g,5,none⟩=false∧w.frozen? ⟨g,6,none⟩=false∧w.frozen? ⟨g,7,none⟩=false∧w.frozen? ⟨g,8,none⟩=false∧w.frozen? ⟨g,9,none⟩=false∧w.frozen? ⟨g,10,none⟩=false∧w.frozen? ⟨g,11,none⟩=false:=
 ⟨h.read 0,h.read 1,h.read 2,h.read 3,h.read 4,h.read 5,h.read 6,h.read 7,h.read 8,h.read 9,h.read 10,h.read 11,h.thawed 0,h.thawed 1,h.thawed 2,h.thawed 3,h.thawed 4,h.thawed 5,h.thawed 6,h.thawed 7,h.thawed 8,h.thawed 9,h.thawed 10,h.thawed 11⟩
theorem Ze.set12{w:World}{g:Nat}{t:TypeId}{l:List Value}(h:Ze w g t l.toArray)(hl:l.length=12)(x0 x1 x2 x3 x4 x5 x6 x7 x8 x9 x10 x11:Value) :
  Put w ((((((((((((w.setCell ⟨g,0,none⟩ x0).setCell ⟨g,1,none⟩ x1).setCell ⟨g,2,none⟩ x2).setCell ⟨g,3,none⟩ x3).setCell ⟨g,4,none⟩ x4).setCell ⟨g,5,none⟩ x5).setCell ⟨g,6,none⟩ x6).setCell ⟨g,7,none⟩ x7).setCell ⟨g,8,none⟩ x8).setCell ⟨g,9,none⟩ x9).setCell ⟨g,10,none⟩ x10).setCell ⟨g,11,none⟩ x11) g t [x0,x1,x2,x3,x4,x5,x6,x7,x8,x9,x10,x11]:=by
 have h1:=Ze.setCells (g:=g) (t:=t) [] [x0,x1,x2,x3,x4,x5,x6,x7,x8,x9,x10,x11] l [] w (by rw[hl];rfl) (by simpa using h);have h2:=Zy.setCells (S:=fun k=>k=g) (g:=g) rfl [x0,x1,x2,x3,x4,x5,x6,x7,x8,x9,x10,x11] 0 (Zy.refl _ w);have h3:Ze (w.setCells g 0 [x0,x1,x2,x3,x4,x5,x6,x7,x8,x9,x10,x11]) g t [x0,x1,x2,x3,x4,x5,x6,x7,x8,x9,x10,x11].toArray:=by simpa using h1
 exact⟨h3,h2⟩
theorem PAt.drew{w:World}{q c r K:Nat}{L:List TokV}{st:St}(h:PAt w q c r K L st):PAt w.drew q c r K L st:=
 h.keeps (S:=fun _=>False) (Zy.drew (Zy.refl _ _)) id id id
theorem Wg.drew{w x:World}{q c r K:Nat}{L:List TokV}{st:St}(m:Wg w x q c r K L st):Wg w x.drew q c r K L st:=⟨m.at_.drew,m.keeps.drew⟩
structure ExW(w:World)(q c r K:Nat)(L:List TokV)(G:Nat)(s:St)(x:Ex)(l:List Value)(wr:World):Prop where
 mv:Wg w wr q c r K L s
 res:Ze wr w.heap.size 54 [I J 0,I J 0,I J 0,I J 0,I J 0,I J 0,Λ none 0 0,I J 0,I J 0,I J 0,I J 0,Λ none 0 0].toArray
 var:Ze wr G 54 l.toArray
 deep:Zt (fun k=>w.heap.size+1≤k∧k≠G) wr x.ds l
 hG:w.heap.size+1≤G
 qin:q<w.heap.size
 cin:c<w.heap.size
 rin:r<w.heap.size
theorem ExW.then{w y z:World}{q c r K G:Nat}{L:List TokV}{s s':St}{x:Ex}{l:List Value}(h:ExW w q c r K L G s x l y)(m:Wg y z q c r K L s'):ExW w q c r K L G s' x l z:=
 ⟨h.mv.then m,m.keeps.whole h.res (by have:=h.qin;have:=h.cin;omega),m.keeps.whole h.var (by have:=h.qin;have:=h.cin;have:=h.hG;omega),
   h.deep.keeps m.keeps (fun k _ hk=>⟨by have:=h.qin;have:=h.cin;omega,hk⟩),h.hG,h.qin,h.cin,h.rin⟩
theorem ExW.next{w y z:World}{q c r K G:Nat}{L:List TokV}{s:St}{x:Ex}{l:List Value}(h:ExW w q c r K L G s x l y)(hb:Below y.heap.size y z):ExW w q c r K L G s x l z:=
 ⟨h.mv.next hb,h.res.below hb h.res.inside,h.var.below hb h.var.inside,h.deep.below hb,h.hG,h.qin,h.cin,h.rin⟩
theorem ExW.drew{w y:World}{q c r K G:Nat}{L:List TokV}{s:St}{x:Ex}{l:List Value}(h:ExW w q c r K L G s x l y):ExW w q c r K L G s x l y.drew:=
 ⟨h.mv.drew,h.res.drew,h.var.drew,h.deep.keeps (S:=fun _=>False) (Zy.drew (Zy.refl _ _)) (fun k _ hk=>⟨id,hk⟩),h.hG,h.qin,h.cin,h.rin⟩
theorem ExW.bin{w y z z':World}{q c r K G:Nat}{L:List TokV}{s s':St}{x x2:Ex}{l vs:List Value}(h:ExW w q c r K L G s x l y)(hyz:Wg y z q c r K L s'){B:Nat}(hB:G<B)(d:Zt (fun k=>B≤k) z x2.ds vs)(op:Int){g:Nat}(g1:z.heap.size≤g)(g2:g<z'.heap.size)
  (hrow:∀ j,j<(l++vs).length→z'.cell? ⟨g,j,none⟩=(l++vs)[j]?)(hb:Below z.heap.size z z'){z2:World}(p:Put z' z2 G 54 [I J 7,I J op,I J 0,I J 0,I J 0,I J 0,Λ none 0 0,I J 0,I J 0,I J 0,I J 0,Λ (some ⟨g,0,none⟩) 2 2]) :
  ExW w q c r K L G s' (.bin op x x2) [I J 7,I J op,I J 0,I J 0,I J 0,I J 0,Λ none 0 0,I J 0,I J 0,I J 0,I J 0,Λ (some ⟨g,0,none⟩) 2 2] z2:=by
 have hG:=h.hG;have h1:=(h.then hyz).next hb;have hv:=h.var.inside;have hs:=hyz.keeps.size;refine⟨h1.mv.put p (by omega) h.qin h.cin h.rin,p.keeps.whole h1.res (by omega),p.whole,?_,hG,h.qin,h.cin,h.rin⟩;have d1:Zt (fun k=>w.heap.size+1≤k∧k≠G) z2 x.ds l:=h1.deep.keeps p.keeps fun k _ hk=>⟨hk.2,hk⟩
 have d2:Zt (fun k=>w.heap.size+1≤k∧k≠G) z2 x2.ds vs:=(d.below hb).keeps p.keeps fun k _ hk=>⟨by omega,by omega,by omega⟩
 refine⟨_,rfl,_,rfl,_,rfl,_,rfl,_,rfl,_,rfl,none,0,[],_,rfl,⟨Nat.zero_le _,Θ _⟩,.inl rfl,rfl,_,rfl,_,rfl,_,rfl,_,rfl,some ⟨g,0,none⟩,2,l++vs,[],rfl,by omega,.inr ⟨g,rfl,⟨by omega,by omega⟩,Nat.lt_of_lt_of_le g2 p.keeps.size,fun j hj=>?_⟩,Zt.app d2 d1,rfl⟩;exact(World.cell?_of_block (a:=⟨g,j,none⟩) (p.keeps.block g g2 (by omega))).trans (hrow j hj)
theorem xproduct(n:Nat)(ih:∀ m,m≤n→FactOK m):ProdOK (n+1):=by
 intro w q c r K L st h hn hLn;have qin:=h.whole.inside;have cin:=h.cin;have rin:=h.rin;have nb:=Zj w (.cells #[I J 0,I J 0,I J 0,I J 0,I J 0,I J 0,Λ none 0 0,I J 0,I J 0,I J 0,I J 0,Λ none 0 0] 54);have M0:=Hh ((Wg.start h).next nb);have R0:=Hh (Ze.made w 54 #[I J 0,I J 0,I J 0,I J 0,I J 0,I J 0,Λ none 0 0,I J 0,I J 0,I J 0,I J 0,Λ none 0 0]);have hfa:∀ w,PAt w q c r K L st→Calls Φ 98 #[Ω (some ⟨q,0,none⟩)] w (Zac w q c r K L (Wp 5 L n st).2 (Wp 5 L n st).1.ds):=fun w h=>ih n (Θ _) w q c r K L st h (by omega) hLn
 have heq:Vl 5 L (n+1) st=Jj 5 L n (Wp 5 L n st):=by rw[Vl]
 have hr:=Zfw L 5 n st;rw[heq];clear heq h nb;generalize Wp 5 L n st=x0 at *;have HX:=Hh x0.1.ds_len;have HN:=Hh (ζ hn (ζ hLn hr));clear hn hLn hr;go_enter Tryz.func74,Tryz.ntmps74;go_wp2_with(first
 |(go_at_call 98;refine(hfa _ M0.out.at_).mono ?_;rintro e w1 ⟨vs,rfl,d1,m1⟩
   have R1:=Hh (m1.keeps.whole R0.out (by omega));have hz1:w.heap.size+1≤w1.heap.size:=by have:=m1.keeps.size;simp at this;omega
   obtain⟨v0,v1,v2,v3,v4,v5,v6,v7,v8,v9,v10,v11,rfl⟩:=Zdf vs (d1.len.trans HX.out);have nb:=Zj w1 (.cells #[I J 0,I J 0,I J 0,I J 0,I J 0,I J 0,Λ none 0 0,I J 0,I J 0,I J 0,I J 0,Λ none 0 0] 54);have T1:=Hh (Ze.made w1 54 #[I J 0,I J 0,I J 0,I J 0,I J 0,I J 0,Λ none 0 0,I J 0,I J 0,I J 0,I J 0,Λ none 0 0]);have R1:=Hh (R1.out.below nb (by omega));have M1:=Hh ((M0.out.then m1).next nb);have O1:=Hh d1.one;have D1:=Hh d1;clear m1 nb d1)
 |((with_reducible refine Zi 3 5 ?_);refine Za 54 _ _ 54 w1.heap.size _ [v0,v1,v2,v3,v4,v5,v6,v7,v8,v9,v10,v11] T1.out rfl Ym O1.out rfl rfl rfl rfl rfl ?_
   intro w2 p2
   have W2:=Hh (show ExW w q c r K L w1.heap.size x0.2 x0.1 [v0,v1,v2,v3,v4,v5,v6,v7,v8,v9,v10,v11] w2 from
     ⟨M1.out.put p2 (by omega) qin cin rin,p2.keeps.whole R1.out (by omega),p2.whole,
       D1.out.keeps ((Zy.of_below (S:=fun k=>k=w1.heap.size) (Zj w1 _)).trans p2.keeps) (M:=fun k=>w.heap.size+1≤k∧k≠w1.heap.size) (fun k hk hn=>(by simp at hn;exact⟨by omega,by omega,by omega⟩)),hz1,qin,cin,rin⟩)
   clear p2))
 go_loopw [10] (fun kk wr=>∃(m:Nat)(s:St)(x:Ex)(l:List Value),ExW w q c r K L w1.heap.size s x l wr∧4*Zw L s+1≤m∧m≤n∧Zw L s≤Zw L st∧Jj 5 L n x0=Jj 5 L m (x,s)) (fun _ wr=>remW q c wr)
 case atStart=>exact⟨n,x0.2,x0.1,_,W2.out,by have:=HN.out;omega,Θ _,HN.out.2.2,rfl⟩
 case round=>
  obtain⟨m,s,x,l,hW,hm,hmn,hrs,heq⟩:=hrel;obtain⟨m,rfl⟩:∃ m',m=m'+1:=⟨m - 1,by omega⟩
  obtain⟨a0,a1,a2,a3,a4,a5,a6,a7,a8,a9,a10,a11,rfl⟩:=Zdf l hW.deep.len12;have hcell:=hW.mv.at_.cell;have hrem:=hW.mv.at_.rem;have HW:=Hh hW;have HQ:=Hh heq;have hz2:w1.heap.size+1≤wr.heap.size:=by have:=hW.var.inside;omega
  clear hW heq;by_cases hb:isS L Va s=true
  · have hlt:=Zfu L hb
    have hst:Jj 5 L (m+1) (x,s)=Jj 5 L m (.bin 3 x (Wp 5 L m (Wf L Va s)).1,(Wp 5 L m (Wf L Va s)).2):=by rw[Jj,if_pos hb]
    have htk:∀ w,PAt w q c r K L s→Calls Φ 99 #[Ji c s,Ψ ⟨#[42]⟩] w (Xw w q c r K L (Wf L Va s) (.bool true)):=fun w h=>by rw[←hb];exact Zbn w q c r K L s Va h
    have hcal:∀ w,PAt w q c r K L (Wf L Va s)→Calls Φ 98 #[Ω (some ⟨q,0,none⟩)] w (Zac w q c r K L (Wp 5 L m (Wf L Va s)).2 (Wp 5 L m (Wf L Va s)).1.ds):=fun w h=>ih m (by omega) w q c r K L _ h (by omega) (by have:=HN.out;omega)
    have hr2:=Zfw L 5 m (Wf L Va s);generalize Wf L Va s=s1 at *;generalize Wp 5 L m s1=y at *;have HY:=Hh y.1.ds_len;have HT:=Hh (ζ hst (ζ hm (ζ hmn (ζ hrs (ζ hrem (ζ hlt hr2))))));clear hb hst hm hmn hrs hrem hlt hr2
    go_wp2_with (go_at_call 99;refine(htk _ HW.out.mv.at_).mono ?_;rintro e w3 ⟨rfl,m3⟩
                 have W3:=Hh (HW.out.then m3);obtain⟨k0,k1,k2,k3,k4,k5,k6,k7,k8,k9,k10,k11,_⟩:=Zlj W3.out.var;have hz3:w1.heap.size+1≤w3.heap.size:=by have:=W3.out.var.inside;omega
                 clear m3)
    go_region_with(first
 |(go_at_call 98;refine(hcal _ W3.out.drew.mv.at_).mono ?_;rintro e w4 ⟨ys,rfl,d4,m4⟩
   have W4:=Hh (W3.out.drew.then m4);obtain⟨k0,k1,k2,k3,k4,k5,k6,k7,k8,k9,k10,k11,_⟩:=Zlj W4.out.var;obtain⟨b0,b1,b2,b3,b4,b5,b6,b7,b8,b9,b10,b11,rfl⟩:=Zdf ys (d4.len.trans HY.out);have D4:=Hh (ζ d4 m4);clear d4 m4)
 |(go_at_call 76;refine(xbinary _ 3 [a0,a1,a2,a3,a4,a5,a6,a7,a8,a9,a10,a11] [b0,b1,b2,b3,b4,b5,b6,b7,b8,b9,b10,b11] rfl rfl W4.out.deep.one D4.out.1.one).mono ?_;rintro e w5 ⟨g,g1,g2,rfl,hrow,hb5⟩
   have V5:=Hh (W4.out.var.below hb5 W4.out.var.inside);obtain⟨k0,k1,k2,k3,k4,k5,k6,k7,k8,k9,k10,k11,f0,f1,f2,f3,f4,f5,f6,f7,f8,f9,f10,f11⟩:=Zlj V5.out
   have X5:=Hh (ζ g1 (ζ g2 (ζ hrow hb5)));clear g1 g2 hrow hb5))
    all_goals
      go_roundw
      case rel=>
        obtain⟨g1,g2,hrow,hb5⟩:=X5.out;repeat apply Exists.intro
        refine⟨⟨m,y.2,.bin 3 x y.1,_,(W3.out.drew).bin D4.out.2 (B:=w3.drew.heap.size) (by show w1.heap.size<w3.heap.size;omega) D4.out.1 3 g1 g2 hrow hb5 (V5.out.set12 rfl _ _ _ _ _ _ _ _ _ _ _ _),?_,?_,?_,?_⟩,rfl⟩
        ·have h:=HT.out;have:=h.2.1;have:=h.2.2.2.2.2;omega
        ·have h:=HT.out;have:=h.2.2.1;omega
        ·have h:=HT.out;have:=h.2.2.2.1;have:=h.2.2.2.2.2;omega
        ·rw[HQ.out,HT.out.1]
      case measure=>
        obtain⟨g1,g2,hrow,hb5⟩:=X5.out;have hx:=((W3.out.drew).bin D4.out.2 (B:=w3.drew.heap.size) (by show w1.heap.size<w3.heap.size;omega) D4.out.1 3 g1 g2 hrow hb5 (V5.out.set12 rfl (I J 7) (I J 3) (I J 0) (I J 0) (I J 0) (I J 0) (Λ none 0 0) (I J 0) (I J 0) (I J 0) (I J 0) (Λ (some ⟨g,0,none⟩) 2 2))).mv.at_.rem;have h:=HT.out;have h1:=h.2.2.2.2.1;have h2:=h.2.2.2.2.2;rw[hx,h1];omega
  · have hnb:isS L Va s=false:=by simpa using hb
    have hst:Jj 5 L (m+1) (x,s)=(x,s):=by rw[Jj,if_neg hb]
    have htk:∀ w,PAt w q c r K L s→Calls Φ 99 #[Ji c s,Ψ ⟨#[42]⟩] w (Xw w q c r K L s (.bool false)):=fun w h=>by have h1:=Zbn w q c r K L s Va h;rw[hnb,Ux hnb]at h1;exact h1
    have HT:=Hh hst;clear hb hnb hst hm hmn hrs hrem;go_wp2_with(first
 |(go_at_call 99;refine(htk _ HW.out.mv.at_).mono ?_;rintro e w3 ⟨rfl,m3⟩
   have W3:=Hh (HW.out.then m3);clear m3)
 |((with_reducible refine Zd 15 ?_);refine Zb 54 _ 54 w1.heap.size _ W3.out.var Xk Ym rfl rfl rfl ?_)
 |((with_reducible refine Zi 2 15 ?_);refine Za 54 _ _ 54 w.heap.size _ [a0,a1,a2,a3,a4,a5,a6,a7,a8,a9,a10,a11] W3.out.res rfl Ym W3.out.deep.one rfl rfl rfl rfl rfl ?_
   intro w4 p4;have R4:=Hh p4.whole;have M4:=Hh (W3.out.mv.put p4 (Θ _) qin cin rin)
   have D4:=Hh (W3.out.deep.keeps p4.keeps (M:=fun k=>w.heap.size≤k) fun k _ hk=>⟨by omega,by omega⟩);clear p4))
    refine Wu 2 54 54 w.heap.size _ rfl R4.out Xk Ym rfl rfl ⟨_,rfl,?_,?_⟩
    ·rw[HQ.out,HT.out];exact D4.out
    ·rw[HQ.out,HT.out];exact M4.out
theorem xexpr(n:Nat)(ih:∀ m,m≤n→ProdOK m):ExprOK (n+1):=by
 intro w q c r K L st h hn hLn;have qin:=h.whole.inside;have cin:=h.cin;have rin:=h.rin;have nb:=Zj w (.cells #[I J 0,I J 0,I J 0,I J 0,I J 0,I J 0,Λ none 0 0,I J 0,I J 0,I J 0,I J 0,Λ none 0 0] 54);have M0:=Hh ((Wg.start h).next nb);have R0:=Hh (Ze.made w 54 #[I J 0,I J 0,I J 0,I J 0,I J 0,I J 0,Λ none 0 0,I J 0,I J 0,I J 0,I J 0,Λ none 0 0]);have hfa:∀ w,PAt w q c r K L st→Calls Φ 74 #[Ω (some ⟨q,0,none⟩)] w (Zac w q c r K L (Vl 5 L n st).2 (Vl 5 L n st).1.ds):=fun w h=>ih n (Θ _) w q c r K L st h (by omega) hLn
 have heq:Yh 5 L (n+1) st=Jl 5 L n (Vl 5 L n st):=by rw[Yh]
 have hr:=Zfv L 5 n st;rw[heq];clear heq h nb;generalize Vl 5 L n st=x0 at *;have HX:=Hh x0.1.ds_len;have HN:=Hh (ζ hn (ζ hLn hr));clear hn hLn hr;go_enter Tryz.func43,Tryz.ntmps43;go_wp2_with(first
 |(go_at_call 74;refine(hfa _ M0.out.at_).mono ?_;rintro e w1 ⟨vs,rfl,d1,m1⟩
   have R1:=Hh (m1.keeps.whole R0.out (by omega));have hz1:w.heap.size+1≤w1.heap.size:=by have:=m1.keeps.size;simp at this;omega
   obtain⟨v0,v1,v2,v3,v4,v5,v6,v7,v8,v9,v10,v11,rfl⟩:=Zdf vs (d1.len.trans HX.out);have nb:=Zj w1 (.cells #[I J 0,I J 0,I J 0,I J 0,I J 0,I J 0,Λ none 0 0,I J 0,I J 0,I J 0,I J 0,Λ none 0 0] 54);have T1:=Hh (Ze.made w1 54 #[I J 0,I J 0,I J 0,I J 0,I J 0,I J 0,Λ none 0 0,I J 0,I J 0,I J 0,I J 0,Λ none 0 0]);have R1:=Hh (R1.out.below nb (by omega));have M1:=Hh ((M0.out.then m1).next nb);have O1:=Hh d1.one;have D1:=Hh d1;clear m1 nb d1)
 |((with_reducible refine Zi 3 6 ?_);refine Za 54 _ _ 54 w1.heap.size _ [v0,v1,v2,v3,v4,v5,v6,v7,v8,v9,v10,v11] T1.out rfl Ym O1.out rfl rfl rfl rfl rfl ?_
   intro w2 p2
   have W2:=Hh (show ExW w q c r K L w1.heap.size x0.2 x0.1 [v0,v1,v2,v3,v4,v5,v6,v7,v8,v9,v10,v11] w2 from
     ⟨M1.out.put p2 (by omega) qin cin rin,p2.keeps.whole R1.out (by omega),p2.whole,
       D1.out.keeps ((Zy.of_below (S:=fun k=>k=w1.heap.size) (Zj w1 _)).trans p2.keeps) (M:=fun k=>w.heap.size+1≤k∧k≠w1.heap.size) (fun k hk hn=>(by simp at hn;exact⟨by omega,by omega,by omega⟩)),hz1,qin,cin,rin⟩)
   clear p2))
 go_loopw [4] (fun kk wr=>∃(m:Nat)(s:St)(x:Ex)(l:List Value),ExW w q c r K L w1.heap.size s x l wr∧4*Zw L s+1≤m∧m≤n∧Zw L s≤Zw L st∧Jl 5 L n x0=Jl 5 L m (x,s)) (fun _ wr=>remW q c wr)
 case atStart=>exact⟨n,x0.2,x0.1,_,W2.out,by have:=HN.out;omega,Θ _,HN.out.2.2,rfl⟩
 case round=>
  obtain⟨m,s,x,l,hW,hm,hmn,hrs,heq⟩:=hrel;obtain⟨m,rfl⟩:∃ m',m=m'+1:=⟨m - 1,by omega⟩
  obtain⟨a0,a1,a2,a3,a4,a5,a6,a7,a8,a9,a10,a11,rfl⟩:=Zdf l hW.deep.len12;have hcell:=hW.mv.at_.cell;have hrem:=hW.mv.at_.rem;have HW:=Hh hW;have HQ:=Hh heq;have hz2:w1.heap.size+1≤wr.heap.size:=by have:=hW.var.inside;omega
  clear hW heq;have hfi:Calls Φ 75 #[Ω (some ⟨q,0,none⟩),Λ (some ⟨wr.heap.size,0,none⟩) 2 2] (wr.alloc (.cells #[Ψ ⟨#[43]⟩,Ψ ⟨#[45]⟩] 9)) fun e w'=>e=η (I J (Zh L Zai s))∧Wg wr w' q c r K L (Yd L Zai s):=xfindB wr q c r K wr.heap.size L s Zai 2 2 _ rfl rfl HW.out.mv.at_ rfl (by decide)
  by_cases hb:Zh L Zai s=0
  · have hst:Jl 5 L (m+1) (x,s)=(x,s):=by rw[Jl,if_pos hb]
    rw[hb,Zah L hb,show((0:Nat):Int)=0 from rfl]at hfi;have HT:=Hh hst;clear hb hst hm hmn hrs hrem;go_wp2_with(first
 |(go_at_call 75;refine hfi.mono ?_;rintro e w3 ⟨rfl,m3⟩
   have W3:=Hh (HW.out.then m3);clear m3)
 |((with_reducible refine Zd 12 ?_);refine Zb 54 _ 54 w1.heap.size _ W3.out.var Xk Ym rfl rfl rfl ?_)
 |((with_reducible refine Zi 2 12 ?_);refine Za 54 _ _ 54 w.heap.size _ [a0,a1,a2,a3,a4,a5,a6,a7,a8,a9,a10,a11] W3.out.res rfl Ym W3.out.deep.one rfl rfl rfl rfl rfl ?_
   intro w4 p4;have R4:=Hh p4.whole;have M4:=Hh (W3.out.mv.put p4 (Θ _) qin cin rin)
   have D4:=Hh (W3.out.deep.keeps p4.keeps (M:=fun k=>w.heap.size≤k) fun k _ hk=>⟨by omega,by omega⟩);clear p4))
    refine Wu 2 54 54 w.heap.size _ rfl R4.out Xk Ym rfl rfl ⟨_,rfl,?_,?_⟩
    ·rw[HQ.out,HT.out];exact D4.out
    ·rw[HQ.out,HT.out];exact M4.out
  · have hlt:=Vq L hb
    have hst:Jl 5 L (m+1) (x,s)=Jl 5 L m (.bin (Zh L Zai s) x (Vl 5 L m (Yd L Zai s)).1,(Vl 5 L m (Yd L Zai s)).2):=by rw[Jl,if_neg hb]
    have hcal:∀ w,PAt w q c r K L (Yd L Zai s)→Calls Φ 74 #[Ω (some ⟨q,0,none⟩)] w (Zac w q c r K L (Vl 5 L m (Yd L Zai s)).2 (Vl 5 L m (Yd L Zai s)).1.ds):=fun w h=>ih m (by omega) w q c r K L _ h (by omega) (by have:=HN.out;omega)
    have hr2:=Zfv L 5 m (Yd L Zai s);generalize Yd L Zai s=s1 at *;generalize Zh L Zai s=k at *;generalize Vl 5 L m s1=y at *;have HY:=Hh y.1.ds_len;have hk0:((k:Int) == 0)=false:=by rw[beq_eq_false_iff_ne];omega
    have HT:=Hh (ζ hst (ζ hm (ζ hmn (ζ hrs (ζ hrem (ζ hlt hr2))))));clear hb hst hm hmn hrs hrem hlt hr2
    go_wp2_with(go_at_call 75;refine hfi.mono ?_;rintro e w3 ⟨rfl,m3⟩
                have W3:=Hh (HW.out.then m3);obtain⟨k0,k1,k2,k3,k4,k5,k6,k7,k8,k9,k10,k11,_⟩:=Zlj W3.out.var;have hz3:w1.heap.size+1≤w3.heap.size:=by have:=W3.out.var.inside;omega
                clear m3)
    go_region_with(first
 |(go_at_call 74;refine(hcal _ W3.out.drew.mv.at_).mono ?_;rintro e w4 ⟨ys,rfl,d4,m4⟩
   have W4:=Hh (W3.out.drew.then m4);obtain⟨k0,k1,k2,k3,k4,k5,k6,k7,k8,k9,k10,k11,_⟩:=Zlj W4.out.var;obtain⟨b0,b1,b2,b3,b4,b5,b6,b7,b8,b9,b10,b11,rfl⟩:=Zdf ys (d4.len.trans HY.out);have D4:=Hh (ζ d4 m4);clear d4 m4)
 |(go_at_call 76;refine(xbinary _ (k:Int) [a0,a1,a2,a3,a4,a5,a6,a7,a8,a9,a10,a11] [b0,b1,b2,b3,b4,b5,b6,b7,b8,b9,b10,b11] rfl rfl W4.out.deep.one D4.out.1.one).mono ?_;rintro e w5 ⟨g,g1,g2,rfl,hrow,hb5⟩
   have V5:=Hh (W4.out.var.below hb5 W4.out.var.inside);obtain⟨k0,k1,k2,k3,k4,k5,k6,k7,k8,k9,k10,k11,f0,f1,f2,f3,f4,f5,f6,f7,f8,f9,f10,f11⟩:=Zlj V5.out
   have X5:=Hh (ζ g1 (ζ g2 (ζ hrow hb5)));clear g1 g2 hrow hb5))
    all_goals
      go_roundw
      case rel=>
        obtain⟨g1,g2,hrow,hb5⟩:=X5.out;repeat apply Exists.intro
        refine⟨⟨m,y.2,.bin (k:Int) x y.1,_,(W3.out.drew).bin D4.out.2 (B:=w3.drew.heap.size) (by show w1.heap.size<w3.heap.size;omega) D4.out.1 (k:Int) g1 g2 hrow hb5 (V5.out.set12 rfl _ _ _ _ _ _ _ _ _ _ _ _),?_,?_,?_,?_⟩,rfl⟩
        ·have h:=HT.out;have:=h.2.1;have:=h.2.2.2.2.2;omega
        ·have h:=HT.out;have:=h.2.2.1;omega
        ·have h:=HT.out;have:=h.2.2.2.1;have:=h.2.2.2.2.2;omega
        ·rw[HQ.out,HT.out.1]
      case measure=>
        obtain⟨g1,g2,hrow,hb5⟩:=X5.out;have hx:=((W3.out.drew).bin D4.out.2 (B:=w3.drew.heap.size) (by show w1.heap.size<w3.heap.size;omega) D4.out.1 (k:Int) g1 g2 hrow hb5 (V5.out.set12 rfl (I J 7) (I J (k:Int)) (I J 0) (I J 0) (I J 0) (I J 0) (Λ none 0 0) (I J 0) (I J 0) (I J 0) (I J 0) (Λ (some ⟨g,0,none⟩) 2 2))).mv.at_.rem;have h:=HT.out;have h1:=h.2.2.2.2.1;have h2:=h.2.2.2.2.2;rw[hx,h1];omega
end Go.Proofs.YtdngkgickbaboaaGreat
