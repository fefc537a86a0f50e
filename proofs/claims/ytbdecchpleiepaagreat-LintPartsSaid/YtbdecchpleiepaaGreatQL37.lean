/- Parts of the proof. No conditions but those that each names. -/
import Derived.Test.YtbdecchpleiepaaGreatQL36
set_option maxRecDepth 20000
set_option maxHeartbeats 99000000
set_option linter.unusedVariables false
set_option linter.unusedSimpArgs false
namespace Go.Proofs.YtbdecchpleiepaaGreat
open Go.Value renaming int→I,slice→Λ,pointer→Ω,string→Ψ
open Go.IntKind renaming i64→J
open _root_.Go.Proofs.Tryz renaming prog→Φ
open Nat renaming le_refl→Θ
open And renaming intro→ζ
open Go.Ending renaming returned→η
open Go.ChangeShapes Go.WideShapes Go.ChangeAt Go.RowKit
theorem kproduct(n:Nat)(L:List TokV)(st:St)(hfa:∀(w:World)(q c r K:Nat),PAt w q c r K L st→Calls Φ 202 #[Ω (some ⟨q,0,none⟩)] w (Vq w q c r K L (Ww 5 L n st).2 (Ww 5 L n st).1.ds))
  (hno:isS L Vs (Ww 5 L n st).2=false)(hn:4*Zx L st+2≤n+1)(hLn:Zx L st≤68719476736)(w:World)(q c r K:Nat)(h:PAt w q c r K L st) :
  Calls Φ 197 #[Ω (some ⟨q,0,none⟩)] w (Vq w q c r K L (Vp 5 L (n+1) st).2 (Vp 5 L (n+1) st).1.ds):=by
 have qin:=h.whole.inside;have cin:=h.cin;have rin:=h.rin;have nb:=Zh w (.cells #[I J 0,I J 0,I J 0,I J 0,I J 0,I J 0,Λ none 0 0,I J 0,I J 0,I J 0,I J 0,Λ none 0 0] 81);have M0:=Hh ((Xw.start h).next nb);have R0:=Hh (Zi.made w 81 #[I J 0,I J 0,I J 0,I J 0,I J 0,I J 0,Λ none 0 0,I J 0,I J 0,I J 0,I J 0,Λ none 0 0]);have heq:Vp 5 L (n+1) st=Jv 5 L n (Ww 5 L n st):=by rw[Vp]
 have hr:=Ziq L 5 n st;rw[heq];clear heq h nb;generalize Ww 5 L n st=x0 at *;have HX:=Hh x0.1.ds_len;have HN:=Hh (ζ hn (ζ hLn hr));clear hn hLn hr;have HNO:=Hh hno;clear hno;go_enter Tryz.func197,Tryz.ntmps197;go_wp2_with(first
 |(go_at_call 202;refine(hfa _ _ _ _ _ M0.out.at_).mono ?_;rintro e w1 ⟨vs,rfl,d1,m1⟩
   have R1:=Hh (m1.keeps.whole R0.out (by omega));have hz1:w.heap.size+1≤w1.heap.size:=by have:=m1.keeps.size;simp at this;omega
   obtain⟨v0,v1,v2,v3,v4,v5,v6,v7,v8,v9,v10,v11,rfl⟩:=Zda vs (d1.len.trans HX.out);have nb:=Zh w1 (.cells #[I J 0,I J 0,I J 0,I J 0,I J 0,I J 0,Λ none 0 0,I J 0,I J 0,I J 0,I J 0,Λ none 0 0] 81);have T1:=Hh (Zi.made w1 81 #[I J 0,I J 0,I J 0,I J 0,I J 0,I J 0,Λ none 0 0,I J 0,I J 0,I J 0,I J 0,Λ none 0 0]);have R1:=Hh (R1.out.below nb (by omega));have M1:=Hh ((M0.out.then m1).next nb);have O1:=Hh d1.one;have D1:=Hh d1;clear m1 nb d1)
 |((with_reducible refine Zg 3 5 ?_);refine Za 81 _ _ 81 w1.heap.size _ [v0,v1,v2,v3,v4,v5,v6,v7,v8,v9,v10,v11] T1.out rfl Yi O1.out rfl rfl rfl rfl rfl ?_
   intro w2 p2
   have W2:=Hh (show ExW w q c r K L w1.heap.size x0.2 x0.1 [v0,v1,v2,v3,v4,v5,v6,v7,v8,v9,v10,v11] w2 from
     ⟨M1.out.put p2 (by omega) qin cin rin,p2.keeps.whole R1.out (by omega),p2.whole,
       D1.out.keeps ((Zy.of_below (S:=fun k=>k=w1.heap.size) (Zh w1 _)).trans p2.keeps) (M:=fun k=>w.heap.size+1≤k∧k≠w1.heap.size) (fun k hk hn=>(by simp at hn;exact⟨by omega,by omega,by omega⟩)),hz1,qin,cin,rin⟩)
   clear p2))
 go_loopw [10] (fun kk wr=>∃(m:Nat)(s:St)(x:Ex)(l:List Value),ExW w q c r K L w1.heap.size s x l wr∧4*Zx L s+1≤m∧m≤n∧Zx L s≤Zx L st∧Jv 5 L n x0=Jv 5 L m (x,s)∧isS L Vs s=false) (fun _ wr=>remW q c wr)
 case atStart=>exact⟨n,x0.2,x0.1,_,W2.out,by have:=HN.out;omega,Θ _,HN.out.2.2,rfl,HNO.out⟩
 case round=>
  obtain⟨m,s,x,l,hW,hm,hmn,hrs,heq,hsn⟩:=hrel;obtain⟨m,rfl⟩:∃ m',m=m'+1:=⟨m - 1,by omega⟩
  obtain⟨a0,a1,a2,a3,a4,a5,a6,a7,a8,a9,a10,a11,rfl⟩:=Zda l hW.deep.len12;have hcell:=hW.mv.at_.cell;have hrem:=hW.mv.at_.rem;have HW:=Hh hW;have HQ:=Hh heq;have hz2:w1.heap.size+1≤wr.heap.size:=by have:=hW.var.inside;omega
  clear hW heq;have hnb:isS L Vs s=false:=hsn;have hb:¬ isS L Vs s=true:=by rw[hsn];exact Bool.false_ne_true
  have hst:Jv 5 L (m+1) (x,s)=(x,s):=by rw[Jv,if_neg hb]
  have htk:∀ w,PAt w q c r K L s→Calls Φ 58 #[Zdi c s,Ψ ⟨#[42]⟩] w (Ue w q c r K L s (.bool false)):=fun w h=>by have h1:=Zic w q c r K L s Vs h;rw[hnb,Zcb hnb]at h1;exact h1
  have HT:=Hh hst;clear hb hnb hsn hst hm hmn hrs hrem;go_wp2_with(first
 |(go_at_call 58;refine(htk _ HW.out.mv.at_).mono ?_;rintro e w3 ⟨rfl,m3⟩
   have W3:=Hh (HW.out.then m3);clear m3)
 |((with_reducible refine Zd 15 ?_);refine Zc 81 _ 81 w1.heap.size _ W3.out.var Yy Yi rfl rfl rfl ?_)
 |((with_reducible refine Zg 2 15 ?_);refine Za 81 _ _ 81 w.heap.size _ [a0,a1,a2,a3,a4,a5,a6,a7,a8,a9,a10,a11] W3.out.res rfl Yi W3.out.deep.one rfl rfl rfl rfl rfl ?_
   intro w4 p4;have R4:=Hh p4.whole;have M4:=Hh (W3.out.mv.put p4 (Θ _) qin cin rin);have D4:=Hh (W3.out.deep.keeps p4.keeps (M:=fun k=>w.heap.size≤k) fun k _ hk=>⟨by omega,by omega⟩);clear p4))
  refine Ya 2 81 81 w.heap.size _ rfl R4.out Yy Yi rfl rfl ⟨_,rfl,?_,?_⟩
  ·rw[HQ.out,HT.out];exact D4.out
  ·rw[HQ.out,HT.out];exact M4.out
theorem kexpr(n:Nat)(L:List TokV)(st:St)(hfa:∀(w:World)(q c r K:Nat),PAt w q c r K L st→Calls Φ 197 #[Ω (some ⟨q,0,none⟩)] w (Vq w q c r K L (Vp 5 L n st).2 (Vp 5 L n st).1.ds))
  (hno:Zk L Zcz (Vp 5 L n st).2=0)(hn:4*Zx L st+3≤n+1)(hLn:Zx L st≤68719476736)(w:World)(q c r K:Nat)(h:PAt w q c r K L st) :
  Calls Φ 182 #[Ω (some ⟨q,0,none⟩)] w (Vq w q c r K L (Yj 5 L (n+1) st).2 (Yj 5 L (n+1) st).1.ds):=by
 have qin:=h.whole.inside;have cin:=h.cin;have rin:=h.rin;have nb:=Zh w (.cells #[I J 0,I J 0,I J 0,I J 0,I J 0,I J 0,Λ none 0 0,I J 0,I J 0,I J 0,I J 0,Λ none 0 0] 81);have M0:=Hh ((Xw.start h).next nb);have R0:=Hh (Zi.made w 81 #[I J 0,I J 0,I J 0,I J 0,I J 0,I J 0,Λ none 0 0,I J 0,I J 0,I J 0,I J 0,Λ none 0 0]);have heq:Yj 5 L (n+1) st=Jz 5 L n (Vp 5 L n st):=by rw[Yj]
 have hr:=Zip L 5 n st;rw[heq];clear heq h nb;generalize Vp 5 L n st=x0 at *;have HX:=Hh x0.1.ds_len;have HN:=Hh (ζ hn (ζ hLn hr));clear hn hLn hr;have HNO:=Hh hno;clear hno;go_enter Tryz.func182,Tryz.ntmps182;go_wp2_with(first
 |(go_at_call 197;refine(hfa _ _ _ _ _ M0.out.at_).mono ?_;rintro e w1 ⟨vs,rfl,d1,m1⟩
   have R1:=Hh (m1.keeps.whole R0.out (by omega));have hz1:w.heap.size+1≤w1.heap.size:=by have:=m1.keeps.size;simp at this;omega
   obtain⟨v0,v1,v2,v3,v4,v5,v6,v7,v8,v9,v10,v11,rfl⟩:=Zda vs (d1.len.trans HX.out);have nb:=Zh w1 (.cells #[I J 0,I J 0,I J 0,I J 0,I J 0,I J 0,Λ none 0 0,I J 0,I J 0,I J 0,I J 0,Λ none 0 0] 81);have T1:=Hh (Zi.made w1 81 #[I J 0,I J 0,I J 0,I J 0,I J 0,I J 0,Λ none 0 0,I J 0,I J 0,I J 0,I J 0,Λ none 0 0]);have R1:=Hh (R1.out.below nb (by omega));have M1:=Hh ((M0.out.then m1).next nb);have O1:=Hh d1.one;have D1:=Hh d1;clear m1 nb d1)
 |((with_reducible refine Zg 3 6 ?_);refine Za 81 _ _ 81 w1.heap.size _ [v0,v1,v2,v3,v4,v5,v6,v7,v8,v9,v10,v11] T1.out rfl Yi O1.out rfl rfl rfl rfl rfl ?_
   intro w2 p2
   have W2:=Hh (show ExW w q c r K L w1.heap.size x0.2 x0.1 [v0,v1,v2,v3,v4,v5,v6,v7,v8,v9,v10,v11] w2 from
     ⟨M1.out.put p2 (by omega) qin cin rin,p2.keeps.whole R1.out (by omega),p2.whole,
       D1.out.keeps ((Zy.of_below (S:=fun k=>k=w1.heap.size) (Zh w1 _)).trans p2.keeps) (M:=fun k=>w.heap.size+1≤k∧k≠w1.heap.size) (fun k hk hn=>(by simp at hn;exact⟨by omega,by omega,by omega⟩)),hz1,qin,cin,rin⟩)
   clear p2))
 go_loopw [4] (fun kk wr=>∃(m:Nat)(s:St)(x:Ex)(l:List Value),ExW w q c r K L w1.heap.size s x l wr∧4*Zx L s+1≤m∧m≤n∧Zx L s≤Zx L st∧Jz 5 L n x0=Jz 5 L m (x,s)∧Zk L Zcz s=0) (fun _ wr=>remW q c wr)
 case atStart=>exact⟨n,x0.2,x0.1,_,W2.out,by have:=HN.out;omega,Θ _,HN.out.2.2,rfl,HNO.out⟩
 case round=>
  obtain⟨m,s,x,l,hW,hm,hmn,hrs,heq,hb⟩:=hrel;obtain⟨m,rfl⟩:∃ m',m=m'+1:=⟨m - 1,by omega⟩
  obtain⟨a0,a1,a2,a3,a4,a5,a6,a7,a8,a9,a10,a11,rfl⟩:=Zda l hW.deep.len12;have hcell:=hW.mv.at_.cell;have hrem:=hW.mv.at_.rem;have HW:=Hh hW;have HQ:=Hh heq;have hz2:w1.heap.size+1≤wr.heap.size:=by have:=hW.var.inside;omega
  clear hW heq;have hfi:Calls Φ 108 #[Ω (some ⟨q,0,none⟩),Λ (some ⟨wr.heap.size,0,none⟩) 2 2] (wr.alloc (.cells #[Ψ ⟨#[43]⟩,Ψ ⟨#[45]⟩] 9)) fun e w'=>e=η (I J (Zk L Zcz s))∧Xw wr w' q c r K L (Ye L Zcz s):=xfindB wr q c r K wr.heap.size L s Zcz 2 2 _ rfl rfl HW.out.mv.at_ rfl (by decide)
  have hst:Jz 5 L (m+1) (x,s)=(x,s):=by rw[Jz,if_pos hb]
  rw[hb,Uh L hb,show((0:Nat):Int)=0 from rfl]at hfi;have HT:=Hh hst;clear hb hst hm hmn hrs hrem;go_wp2_with(first
 |(go_at_call 108;refine hfi.mono ?_;rintro e w3 ⟨rfl,m3⟩
   have W3:=Hh (HW.out.then m3);clear m3)
 |((with_reducible refine Zd 12 ?_);refine Zc 81 _ 81 w1.heap.size _ W3.out.var Yy Yi rfl rfl rfl ?_)
 |((with_reducible refine Zg 2 12 ?_);refine Za 81 _ _ 81 w.heap.size _ [a0,a1,a2,a3,a4,a5,a6,a7,a8,a9,a10,a11] W3.out.res rfl Yi W3.out.deep.one rfl rfl rfl rfl rfl ?_
   intro w4 p4;have R4:=Hh p4.whole;have M4:=Hh (W3.out.mv.put p4 (Θ _) qin cin rin);have D4:=Hh (W3.out.deep.keeps p4.keeps (M:=fun k=>w.heap.size≤k) fun k _ hk=>⟨by omega,by omega⟩);clear p4))
  refine Ya 2 81 81 w.heap.size _ rfl R4.out Yy Yi rfl rfl ⟨_,rfl,?_,?_⟩
  ·rw[HQ.out,HT.out];exact D4.out
  ·rw[HQ.out,HT.out];exact M4.out
end Go.Proofs.YtbdecchpleiepaaGreat
