/- Parts of the proof. No conditions but those that each names. -/
import Derived.Test.YtbdecchpleiepaaGreatQL51
set_option maxRecDepth 20000
set_option maxHeartbeats 99000000
set_option linter.unusedVariables false
set_option linter.unusedSimpArgs false
namespace Go.Proofs.YtbdecchpleiepaaGreat
open Go.Value renaming int→I,slice→Λ,string→Ψ,oneCell'→Γ
open Go.IntKind renaming i64→J
open _root_.Go.Proofs.Tryz renaming prog→Φ
open Nat renaming le_refl→Θ
open And renaming intro→ζ
open Go.Ending renaming returned→η
open Go.ChangeShapes Go.WideShapes Go.ChangeAt Go.RowKit
theorem Env.trees{w x:World}{bs:List Bk}{rs:List Rw}{ts us:List (Ds×List Value)}(h:Env w bs rs ts x)(hu:∀ u ∈ us,Zs (Zld w bs rs) x u.1 u.2):Env w bs rs us x:=
 ⟨h.at_,h.lo,h.nod,h.row,h.apart,h.rapart,hu,h.below⟩
theorem Env.leafF{w x:World}{bs cs:List Bk}{rs:List Rw}{ts:List (Ds×List Value)}(h:Env w (bs++cs) rs ts x)(i:Nat){d:Ds}{l:List Value}(hi:ts[i]?=some (d,l)):Zs (Zld w bs rs) x d l:=
 (h.deep _ (List.mem_of_getElem? hi)).mono fun k _ hn=>Zff hn
theorem Env.file{w x:World}{bs cs:List Bk}{rs:List Rw}{ts:List (Ds×List Value)}(h:Env w (bs++cs) rs ts x){u1 u2 u3:Ds×List Value}(h1:Zs (Zld w bs rs) x u1.1 u1.2)(h2:Zs (Zld w bs rs) x u2.1 u2.2)(h3:Zs (Zld w bs rs) x u3.1 u3.2):Env w bs rs [u1,u2,u3] x:=by
 have h':=h.less (bs:=bs) (cs:=cs) (ts:=[]) (us:=ts);refine h'.trees fun u hu=>?_
 rcases List.mem_cons.1 hu with rfl | hu
 ·exact h1
 rcases List.mem_cons.1 hu with rfl | hu
 ·exact h2
 ·cases List.mem_singleton.1 hu;exact h3
theorem zFi_deep(N:Nat→Prop)(w:World):Zs N w (⟨[],[]⟩:Fi).ds [Λ none 0 0,Λ none 0 0]:=
 ⟨none,0,[],_,rfl,⟨Nat.zero_le _,Θ _⟩,.inl rfl,rfl,none,0,[],_,rfl,⟨Nat.zero_le _,Θ _⟩,.inl rfl,rfl,rfl⟩
theorem qFile(s:ByteArray)(w:World)(hs:s.size≤65536):Calls Φ 6 #[Ψ s] w (Zhu w (Zcn 3 s).1.ds (Zcn 3 s).2):=by
 have T0:=Hh (Env.start w);have hr:=Zli s;have hl:=text_len s hs;have hbe:∀ w,Calls Φ 16 #[Ψ s] w (fun e w'=>∃(vs:List Value)(r K:Nat)(A:Option Addr)(c:Nat),e=η (.agg vs.toArray)∧RPv r K (Wh s) (Je s) vs∧RowKnown r K (Wh s) A∧Zs (fun k=>w.heap.size≤k) w' (.row (Wh s).length (Zcj (Wh s)) .nil) [.slice A (Wh s).length c]∧Below w.heap.size w w'):=fun w=>qbegin s w hs
 have hN:8*(Wh s).length+20≤Zfi s:=Θ _;show Calls _ _ _ _ (Zhu w (if(Xq (Wh s) (Wk 3 (Wh s) (Zfi s) (Je s)).2).good=true then(Wk 3 (Wh s) (Zfi s) (Je s)).1 else⟨[],[]⟩).ds (Xb (Xq (Wh s) (Wk 3 (Wh s) (Zfi s) (Je s)).2)));obtain⟨Po,hPo⟩:∃ Po:Ending→World→Prop,Po=Zhu w (if(Xq (Wh s) (Wk 3 (Wh s) (Zfi s) (Je s)).2).good=true then(Wk 3 (Wh s) (Zfi s) (Je s)).1 else⟨[],[]⟩).ds (Xb (Xq (Wh s) (Wk 3 (Wh s) (Zfi s) (Je s)).2)):=⟨_,rfl⟩
 rw[←hPo];generalize Zfi s=n at *;generalize Je s=st at *;generalize Wh s=L at *;have HN:=Hh (show 8*Zx L st+10≤n∧Zx L st≤68719476736 by omega);have HPo:=Hh hPo;clear hr hl hN hs hPo;go_enter Tryz.func6,Tryz.ntmps6;go_wp2_with(first
 |((with_reducible refine Zd 2 ?_);refine Zb T0.out 26 _ rfl rfl z_fi ?_;intro w1 g0 t1
   have T1:=Hh (t1);clear t1)
 |((with_reducible refine Zd 3 ?_);refine Zb T1.out 29 _ rfl rfl z_F ?_;intro w2 g1 t2
   have T2:=Hh (t2);clear t2)
 |((with_reducible refine Zd 4 ?_);refine Zb T2.out 26 _ rfl rfl z_fi ?_;intro w3 g2 t3
   have T3:=Hh (t3);clear t3)
 |((with_reducible refine Zg 4 10 ?_);refine Za 26 _ _ 26 g2 _ ([Λ none 0 0,Λ none 0 0]) (T3.out.get 2 rfl) rfl Va (by simp[Γ]) rfl rfl rfl rfl rfl ?_
   intro w4 p4;have T4:=Hh (T3.out.put 2 rfl p4);clear p4)
 |(go_at_call 16;refine(hbe _).mono ?_;rintro e w5 ⟨v1,r,K,A1,k1,rfl,h1,hk,d1,b5⟩
   have T5:=Hh (T4.out.tree b5 d1);have HK:=Hh hk;clear hk d1;clear b5)
 |((with_reducible refine Zd 5 ?_);refine Zb T5.out 51 _ rfl rfl z_P ?_;intro w6 g3 t6
   have T6:=Hh (t6);clear t6)
 |((with_reducible refine Zg 5 12 ?_);refine Za 51 _ _ 51 g3 _ (v1) (T6.out.get 3 rfl) h1.len (Ze h1.len) h1.one rfl rfl rfl rfl rfl ?_
   intro w7 p7;have T7:Hid (Env w [(g0,26,[Λ none 0 0,Λ none 0 0]),(g1,29,[I J 0,I J 0,I J 0]),(g2,26,[Λ none 0 0,Λ none 0 0]),(g3,51,v1)] [] [(.row L.length (Zcj L) .nil,[Λ A1 L.length k1])] w7):=Hh (T6.out.put 3 rfl p7);clear p7))
 go_simp;go_loopw [8] (fun kk wr=>∃(m:Nat)(cs:List Ca)(ps:List Pl)(xc xp:List Value)(vc vp:Value)(s:St)(us:List Value),Env w [(g0,26,[Λ none 0 0,Λ none 0 0]),(g1,29,[I J 0,I J 0,I J 0]),(g2,26,[vc,vp]),(g3,51,us)] [⟨vc,36,6,cs.length,xc⟩,⟨vp,45,4,ps.length,xp⟩] [(.row L.length (Zcj L) .nil,[Λ A1 L.length k1]),(Zcg cs,xc),(Zde ps,xp)] wr∧RPv r K L s us∧8*Zx L s+10≤m∧m≤n∧cs.length+ps.length+Zx L s≤Zx L st∧Wk 3 L n st=(⟨cs++(Wk 3 L m s).1.cards,ps++(Wk 3 L m s).1.places⟩,(Wk 3 L m s).2)∧xc.length+xp.length=cs.length*6+ps.length*4) (fun _ wr=>remB g3 L.length wr)
 case atStart=>exact⟨n,[],[],[],[],Λ none 0 0,Λ none 0 0,st,v1,T7.out.rows2 36 45 6 4,h1,HN.out.1,Θ _,by simp,by simp,rfl⟩
 case round=>
  obtain⟨m,cs,ps,xc,xp,vc,vp,s,us,hT,hs,hm,hmn,hacc,heq,hxl⟩:=hrel;obtain⟨m,rfl⟩:∃ m',m=m'+1:=⟨m - 1,by omega⟩
  obtain⟨Ac,kc,rfl,_,_,_⟩:=Yx (show World.ownsRow _ w.heap.size 36 6 _ cs.length xc from hT.row _ List.mem_cons_self);obtain⟨Ap,kp,rfl,_,_,_⟩:=Yx (show World.ownsRow _ w.heap.size 45 4 _ ps.length xp from hT.row _ (List.mem_cons_of_mem _ (List.mem_singleton.2 rfl)));have hrem:=Jg hs (hT.get 3 rfl);clear h1 hbe;cases s with
  |bad F=>
    have HP:=Hh hs;obtain⟨SA,nb,kb,a,d,rfl,hd,hF⟩:=hs.bad;obtain⟨f0,f1,f2⟩:=F;have HG:Hid (¬(Xq L (.bad (f0,f1,f2))).good=true):=Hh (by intro h;cases h)
    have HP2:Hid (∀(e:Ending)(y:World),e=η (.tuple #[.agg [Λ none 0 0,Λ none 0 0].toArray,.agg [I J (Xb (Xq L (.bad (f0,f1,f2)))).1,I J ((Xb (Xq L (.bad (f0,f1,f2)))).2.1:Int),I J ((Xb (Xq L (.bad (f0,f1,f2)))).2.2:Int)].toArray])→Below w.heap.size w y→Po e y):=Hh (by
     intro e y he hb;rw[HPo.out,heq,Zjs 3 L m _ rfl];dsimp only;rw[if_neg HG.out];exact⟨_,he,zFi_deep _ _,hb⟩)
    have hqo:=fun(x:World)(us:List Value)(ho:Zu x r K L)(hp:RPv r K L (.bad (f0,f1,f2)) us)=>qover x r K L _ us ho hp
    have z0:(f0 == 0)=false:=by rw[beq_eq_false_iff_ne];exact hF
    obtain⟨c0,c1,c2,c3,c4,c5⟩:=Xu (hT.get 3 rfl);have T20:=Hh hT;clear hT hs hm hmn hacc heq hrem hF hxl hqo;go_wp2_with(first
 |((with_reducible refine Zd 87 ?_);refine Zc 51 _ 51 g3 _ (T20.out.get 3 rfl) Zm (Ze HP.out.len) rfl rfl rfl ?_)
 |(go_at_call 24;refine(qover _ r K L _ [Λ SA nb kb,I J (a:Int),I J (d:Int),I J f0,I J (f1:Int),I J (f2:Int)] (Zu.of (T20.out.leaf 0 rfl) HK.out) HP.out).mono ?_;rintro e w21 ⟨v30,rfl,h30,b21⟩
   have hnz:=h30.flt;obtain⟨y0,y1,y2,rfl⟩:=h30.six;have T21:=Hh (T20.out.call b21);clear b21)
 |((with_reducible refine Zg 5 88 ?_);refine Za 51 _ _ 51 g3 _ ([y0,y1,y2,I J (Xb (Xq L (.bad (f0,f1,f2)))).1,I J ((Xb (Xq L (.bad (f0,f1,f2)))).2.1:Int),I J ((Xb (Xq L (.bad (f0,f1,f2)))).2.2:Int)]) (T21.out.get 3 rfl) HP.out.len.symm Yc h30.one rfl rfl rfl rfl rfl ?_
   intro w22 p22;have T22:Hid (Env w [(g0,26,[Λ none 0 0,Λ none 0 0]),(g1,29,[I J 0,I J 0,I J 0]),(g2,26,[Λ Ac cs.length kc,Λ Ap ps.length kp]),(g3,51,[y0,y1,y2,I J (Xb (Xq L (.bad (f0,f1,f2)))).1,I J ((Xb (Xq L (.bad (f0,f1,f2)))).2.1:Int),I J ((Xb (Xq L (.bad (f0,f1,f2)))).2.2:Int)])] [⟨Λ Ac cs.length kc,36,6,cs.length,xc⟩,⟨Λ Ap ps.length kp,45,4,ps.length,xp⟩] [(.row L.length (Zcj L) .nil,[Λ A1 L.length k1]),(Zcg cs,xc),(Zde ps,xp)] w22):=Hh (T21.out.put 3 rfl p22);obtain⟨q0,q1,q2,q3,q4,q5⟩:=Xu (T22.out.get 3 rfl);obtain⟨m0,m1,m2,n0,n1,n2⟩:=Zo (T22.out.get 1 rfl);obtain⟨m4,m5,n4,n5⟩:=Zhc (T22.out.get 0 rfl);have ne0:g0≠g1:=T22.out.ne 0 1 (by decide) rfl rfl;have ne1:g1≠g0:=T22.out.ne 1 0 (by decide) rfl rfl;have ne2:g0≠g3:=T22.out.ne 0 3 (by decide) rfl rfl;have ne3:g3≠g0:=T22.out.ne 3 0 (by decide) rfl rfl;have ne4:g1≠g3:=T22.out.ne 1 3 (by decide) rfl rfl;have ne5:g3≠g1:=T22.out.ne 3 1 (by decide) rfl rfl;have z1:((Xb (Xq L (.bad (f0,f1,f2)))).1 != 0)=true:=by(cases h:Xq L (.bad (f0,f1,f2))with | ok a d=>(rw[h]at HG;exact absurd rfl HG.out) | bad F=>(rw[bne_iff_ne];exact hnz F h))
   clear p22))
    go_region
    all_goals
     go_wp2
     have hy:=T22.out.put 0 rfl (put2 (T22.out.get 0 rfl) (Λ none 0 0) (Λ none 0 0));have p':=put3 (hy.get 1 rfl) (I J (Xb (Xq L (.bad (f0,f1,f2)))).1) (I J ((Xb (Xq L (.bad (f0,f1,f2)))).2.1:Int)) (I J ((Xb (Xq L (.bad (f0,f1,f2)))).2.2:Int));have hz:=hy.put 1 rfl p';first
     |exact Yp 2 26 3 29 26 29 _ _ _ _ rfl (hz.drew.get 0 rfl) (hz.drew.get 1 rfl) Zck Va Zcl Vb rfl rfl rfl (HP2.out _ _ rfl hz.drew.below)
     |exact Yp 2 26 3 29 26 29 _ _ _ _ rfl (hz.get 0 rfl) (hz.get 1 rfl) Zck Va Zcl Vb rfl rfl rfl (HP2.out _ _ rfl hz.below)
  |ok a d=>
    have HP:=Hh hs;obtain⟨nn,hnn,rfl,ha,hd⟩:=hs.ok;have HNN:=Hh (ζ hnn ha);obtain⟨c0,c1,c2,c3,c4,c5⟩:=Xu (hT.get 3 rfl);have hfr:=Vt (L:=L) (ws:=Xp) (st:=.ok a d);have hfn:=Uh L (ws:=Xp) (st:=.ok a d);have hle:=Zen L Xp (.ok a d);have hst:=Zjs 3 L m (.ok a d);have hsc:=Zna 3 L m (.ok a d);have hsp:=Zlb 3 L m (.ok a d);have hhe:∀ x,Uw x r K L→Calls Φ 17 #[.agg #[Λ (some ⟨r,0,none⟩) nn K,I J (a:Int),I J (d:Int)],I J 0] x (fun e w'=>e=η (Wz (Yb L a))∧Below x.heap.size x w'):=fun x h=>Zkc x r K L nn a d HNN.out.1 h HNN.out.2
    have hmy:∀(x:World)(us:List Value),Zu x r K L→RPv r K L (.ok a d) us→Calls Φ 18 #[.agg us.toArray,Λ (some ⟨x.heap.size,0,none⟩) 2 2] (x.alloc (.cells #[Ψ ⟨#[99,97,114,100]⟩,Ψ ⟨#[112,108,97,99,101]⟩] 9)) (PVo x r K L (Ye L Xp (.ok a d)) (I J (Zk L Xp (.ok a d)))):=fun x us h1 h2=>Zlr x r K _ L (.ok a d) us Xp 2 2 _ rfl rfl h1 h2 rfl (by decide)
    have htk:St.tok L (.ok a d)=Yb L a:=rfl;have hpos:0<L.length:=by omega
    rw[htk]at hsc hsp;clear htk hs hnn;have hov:∀ k,k=Zk L Xp (.ok a d)→k=0→Ye L Xp (.ok a d)=.ok a d:=fun k e h=>hfn (by rw[←e];exact h)
    generalize Yb L a=tv at *;have T20:=Hh hT;have HE:=Hh heq;have HB:=Hh hrem;have HPO:=Hh hpos;unfold Wz at hhe;clear hT heq hrem hpos hov;by_cases hk0:Zk L Xp (.ok a d)=0
    ·have hs1:=hfn hk0
     have HS:=Hh (hst hk0);rw[hk0,hs1]at hmy;rw[show((0:Nat):Int)=0 from rfl]at hmy;clear hst hsc hsp hfn hfr hm hmn hacc hle hk0 hs1 hxl;rcases Classical.em ((Xq L (.ok a d)).good=true)with hg | hg
     ·have hf:Xb (Xq L (.ok a d))=okF:=by cases h:Xq L (.ok a d)with | ok a d=>rfl | bad F=>rw[h]at hg;cases hg
      have hgo:Xq L (.ok a d)=.ok a d:=by
       have h2:Xq L (.ok a d)=if(Yb L a).k=0 then .ok a d else .bad (wrF (Yb L a)):=rfl
       by_cases hk:(Yb L a).k=0
       ·rw[h2,if_pos hk]
       ·rw[h2,if_neg hk]at hg;cases hg
      have z1:((Xb (Xq L (.ok a d))).1 != 0)=false:=by rw[hf];rfl
      have HP2:Hid (∀(e:Ending)(y:World),e=η (.tuple #[.agg [Λ Ac cs.length kc,Λ Ap ps.length kp].toArray,.agg [I J 0,I J 0,I J 0].toArray])→Below w.heap.size w y→Zs (fun k=>w.heap.size≤k) y (.row cs.length (Zcg cs) .nil) [Λ Ac cs.length kc]→Zs (fun k=>w.heap.size≤k) y (.row ps.length (Zde ps) .nil) [Λ Ap ps.length kp]→Po e y):=Hh (by
       intro e y he hb h1 h2;rw[HPo.out,HE.out,HS.out];dsimp only;rw[if_pos hg,hf,List.append_nil,List.append_nil];exact⟨_,he,Zs.app (x:=.row cs.length (Zcg cs) .nil) h2 h1,hb⟩)
      clear hg hf hgo;go_wp2_with(first
 |((with_reducible refine Zd 18 ?_);refine Xn 49 _ 51 g3 0 ([]) ([Λ (some ⟨r,0,none⟩) nn K,I J (a:Int),I J (d:Int)]) ([I J 0,I J 0,I J 0]) (T20.out.get 3 rfl) rfl Zbh Wl rfl rfl rfl ?_)
 |(go_at_call 17;refine(hhe _ ((Zu.of (T20.out.leaf 0 rfl) HK.out) HPO.out)).mono ?_;rintro e w21 ⟨rfl,b21⟩
   have T21:=Hh (T20.out.call b21);clear b21)
 |((with_reducible refine Zd 6 ?_);refine Zb T21.out 54 _ rfl rfl Zle ?_;intro w22 g4 t22
   have T22:=Hh (t22);clear t22)
 |((with_reducible refine Zg 6 19 ?_);refine Za 54 _ _ 54 g4 _ ([I J tv.k,Ψ tv.t,I J tv.n,I J (tv.line:Int),I J (tv.col:Int)]) (T22.out.get 4 rfl) rfl Zdb (by simp[Γ]) rfl rfl rfl rfl rfl ?_
   intro w23 p23;have T23:=Hh (T22.out.put 4 rfl p23);clear p23)
 |((with_reducible refine Zd 21 ?_);refine Zc 51 _ 51 g3 _ (T23.out.get 3 rfl) Zm Yc rfl rfl rfl ?_)
 |(go_at_call 18;refine(hmy _ _ (Zu.of (T23.out.leaf 0 rfl) HK.out) HP.out).mono ?_;rintro e w24 ⟨v1,rfl,h1,b24⟩
   have T24:=Hh (T23.out.call b24);clear b24)
 |((with_reducible refine Zd 7 ?_);refine Zb T24.out 51 _ rfl rfl z_P ?_;intro w25 g5 t25
   have T25:=Hh (t25);clear t25)
 |((with_reducible refine Zg 7 24 ?_);refine Za 51 _ _ 51 g5 _ (v1) (T25.out.get 5 rfl) h1.len (Ze h1.len) h1.one rfl rfl rfl rfl rfl ?_
   intro w26 p26;have T26:=Hh (T25.out.put 5 rfl p26);clear p26)
 |((with_reducible refine Zd 26 ?_);refine Zc 51 _ 51 g5 _ (T26.out.get 5 rfl) Zm (Ze h1.len) rfl rfl rfl ?_)
 |((with_reducible refine Zg 5 26 ?_);refine Za 51 _ _ 51 g3 _ (v1) (T26.out.get 3 rfl) h1.len (Ze h1.len) h1.one rfl rfl rfl rfl rfl ?_
   intro w27 p27;have T27:=Hh (T26.out.put 3 rfl p27);have hli:=T27.out.cell 4 3 rfl rfl;have hco:=T27.out.cell 4 4 rfl rfl;clear p27)
 |((with_reducible refine Zd 87 ?_);refine Zc 51 _ 51 g3 _ (T27.out.get 3 rfl) Zm (Ze h1.len) rfl rfl rfl ?_)
 |(go_at_call 24;refine(qover _ r K L _ v1 (Zu.of (T27.out.leaf 0 rfl) HK.out) h1).mono ?_;rintro e w28 ⟨v30,rfl,h30,b28⟩
   have hnz:=h30.flt;obtain⟨y0,y1,y2,rfl⟩:=h30.six;have T28:=Hh (T27.out.call b28);clear b28)
 |((with_reducible refine Zg 5 88 ?_);refine Za 51 _ _ 51 g3 _ ([y0,y1,y2,I J (Xb (Xq L (.ok a d))).1,I J ((Xb (Xq L (.ok a d))).2.1:Int),I J ((Xb (Xq L (.ok a d))).2.2:Int)]) (T28.out.get 3 rfl) h1.len.symm Yc h30.one rfl rfl rfl rfl rfl ?_
   intro w29 p29;have T29:=Hh (T28.out.put 3 rfl p29);obtain⟨q0,q1,q2,q3,q4,q5⟩:=Xu (T29.out.get 3 rfl);clear p29)
 |((with_reducible refine Zd 96 ?_);refine Zc 26 _ 26 g2 _ (T29.out.get 2 rfl) Zck Va rfl rfl rfl ?_)
 |((with_reducible refine Zg 2 96 ?_);refine Za 26 _ _ 26 g0 _ ([Λ Ac cs.length kc,Λ Ap ps.length kp]) (T29.out.get 0 rfl) rfl Va (by simp[Γ]) rfl rfl rfl rfl rfl ?_
   intro w30 p30;have T30:=Hh (T29.out.put 0 rfl p30);clear p30)
 |((with_reducible refine Zg 3 97 ?_);refine Za 29 _ _ 29 g1 _ ([I J 0,I J 0,I J 0]) (T30.out.get 1 rfl) rfl Vb (by simp[Γ]) rfl rfl rfl rfl rfl ?_
   intro w31 p31;have T31:Hid (Env w [(g0,26,[Λ Ac cs.length kc,Λ Ap ps.length kp]),(g1,29,[I J 0,I J 0,I J 0]),(g2,26,[Λ Ac cs.length kc,Λ Ap ps.length kp]),(g3,51,[y0,y1,y2,I J (Xb (Xq L (.ok a d))).1,I J ((Xb (Xq L (.ok a d))).2.1:Int),I J ((Xb (Xq L (.ok a d))).2.2:Int)]),(g4,54,[I J tv.k,Ψ tv.t,I J tv.n,I J (tv.line:Int),I J (tv.col:Int)]),(g5,51,v1)] [⟨Λ Ac cs.length kc,36,6,cs.length,xc⟩,⟨Λ Ap ps.length kp,45,4,ps.length,xp⟩] [(.row L.length (Zcj L) .nil,[Λ A1 L.length k1]),(Zcg cs,xc),(Zde ps,xp)] w31):=Hh (T30.out.put 1 rfl p31)
   clear p31))
      refine Yp 2 26 3 29 26 29 _ _ _ _ rfl (T31.out.get 0 rfl) (T31.out.get 1 rfl) Zck Va Zcl Vb rfl rfl rfl ?_;exact HP2.out _ _ rfl T31.out.below (Zs.rowOf (T31.out.row _ List.mem_cons_self) (fun k hk=>hk) (T31.out.leaf 1 rfl)) (Zs.rowOf (T31.out.row _ (List.mem_cons_of_mem _ (List.mem_singleton.2 rfl))) (fun k hk=>hk) (T31.out.leaf 2 rfl))
     ·have HG:=Hh hg
      have HP2:Hid (∀(e:Ending)(y:World),e=η (.tuple #[.agg [Λ none 0 0,Λ none 0 0].toArray,.agg [I J (Xb (Xq L (.ok a d))).1,I J ((Xb (Xq L (.ok a d))).2.1:Int),I J ((Xb (Xq L (.ok a d))).2.2:Int)].toArray])→Below w.heap.size w y→Po e y):=Hh (by
       intro e y he hb;rw[HPo.out,HE.out,HS.out];dsimp only;rw[if_neg hg];exact⟨_,he,zFi_deep _ _,hb⟩)
      clear hg;go_wp2_with(first
 |((with_reducible refine Zd 18 ?_);refine Xn 49 _ 51 g3 0 ([]) ([Λ (some ⟨r,0,none⟩) nn K,I J (a:Int),I J (d:Int)]) ([I J 0,I J 0,I J 0]) (T20.out.get 3 rfl) rfl Zbh Wl rfl rfl rfl ?_)
 |(go_at_call 17;refine(hhe _ ((Zu.of (T20.out.leaf 0 rfl) HK.out) HPO.out)).mono ?_;rintro e w21 ⟨rfl,b21⟩
   have T21:=Hh (T20.out.call b21);clear b21)
 |((with_reducible refine Zd 6 ?_);refine Zb T21.out 54 _ rfl rfl Zle ?_;intro w22 g4 t22
   have T22:=Hh (t22);clear t22)
 |((with_reducible refine Zg 6 19 ?_);refine Za 54 _ _ 54 g4 _ ([I J tv.k,Ψ tv.t,I J tv.n,I J (tv.line:Int),I J (tv.col:Int)]) (T22.out.get 4 rfl) rfl Zdb (by simp[Γ]) rfl rfl rfl rfl rfl ?_
   intro w23 p23;have T23:=Hh (T22.out.put 4 rfl p23);clear p23)
 |((with_reducible refine Zd 21 ?_);refine Zc 51 _ 51 g3 _ (T23.out.get 3 rfl) Zm Yc rfl rfl rfl ?_)
 |(go_at_call 18;refine(hmy _ _ (Zu.of (T23.out.leaf 0 rfl) HK.out) HP.out).mono ?_;rintro e w24 ⟨v1,rfl,h1,b24⟩
   have T24:=Hh (T23.out.call b24);clear b24)
 |((with_reducible refine Zd 7 ?_);refine Zb T24.out 51 _ rfl rfl z_P ?_;intro w25 g5 t25
   have T25:=Hh (t25);clear t25)
 |((with_reducible refine Zg 7 24 ?_);refine Za 51 _ _ 51 g5 _ (v1) (T25.out.get 5 rfl) h1.len (Ze h1.len) h1.one rfl rfl rfl rfl rfl ?_
   intro w26 p26;have T26:=Hh (T25.out.put 5 rfl p26);clear p26)
 |((with_reducible refine Zd 26 ?_);refine Zc 51 _ 51 g5 _ (T26.out.get 5 rfl) Zm (Ze h1.len) rfl rfl rfl ?_)
 |((with_reducible refine Zg 5 26 ?_);refine Za 51 _ _ 51 g3 _ (v1) (T26.out.get 3 rfl) h1.len (Ze h1.len) h1.one rfl rfl rfl rfl rfl ?_
   intro w27 p27;have T27:=Hh (T26.out.put 3 rfl p27);have hli:=T27.out.cell 4 3 rfl rfl;have hco:=T27.out.cell 4 4 rfl rfl;clear p27)
 |((with_reducible refine Zd 87 ?_);refine Zc 51 _ 51 g3 _ (T27.out.get 3 rfl) Zm (Ze h1.len) rfl rfl rfl ?_)
 |(go_at_call 24;refine(qover _ r K L _ v1 (Zu.of (T27.out.leaf 0 rfl) HK.out) h1).mono ?_;rintro e w28 ⟨v30,rfl,h30,b28⟩
   have hnz:=h30.flt;obtain⟨y0,y1,y2,rfl⟩:=h30.six;have T28:=Hh (T27.out.call b28);clear b28)
 |((with_reducible refine Zg 5 88 ?_);refine Za 51 _ _ 51 g3 _ ([y0,y1,y2,I J (Xb (Xq L (.ok a d))).1,I J ((Xb (Xq L (.ok a d))).2.1:Int),I J ((Xb (Xq L (.ok a d))).2.2:Int)]) (T28.out.get 3 rfl) h1.len.symm Yc h30.one rfl rfl rfl rfl rfl ?_
   intro w29 p29;have T29:Hid (Env w [(g0,26,[Λ none 0 0,Λ none 0 0]),(g1,29,[I J 0,I J 0,I J 0]),(g2,26,[Λ Ac cs.length kc,Λ Ap ps.length kp]),(g3,51,[y0,y1,y2,I J (Xb (Xq L (.ok a d))).1,I J ((Xb (Xq L (.ok a d))).2.1:Int),I J ((Xb (Xq L (.ok a d))).2.2:Int)]),(g4,54,[I J tv.k,Ψ tv.t,I J tv.n,I J (tv.line:Int),I J (tv.col:Int)]),(g5,51,v1)] [⟨Λ Ac cs.length kc,36,6,cs.length,xc⟩,⟨Λ Ap ps.length kp,45,4,ps.length,xp⟩] [(.row L.length (Zcj L) .nil,[Λ A1 L.length k1]),(Zcg cs,xc),(Zde ps,xp)] w29):=Hh (T28.out.put 3 rfl p29);obtain⟨q0,q1,q2,q3,q4,q5⟩:=Xu (T29.out.get 3 rfl);obtain⟨m0,m1,m2,n0,n1,n2⟩:=Zo (T29.out.get 1 rfl);obtain⟨m4,m5,n4,n5⟩:=Zhc (T29.out.get 0 rfl);have ne0:g0≠g1:=T29.out.ne 0 1 (by decide) rfl rfl;have ne1:g1≠g0:=T29.out.ne 1 0 (by decide) rfl rfl;have ne2:g0≠g3:=T29.out.ne 0 3 (by decide) rfl rfl;have ne3:g3≠g0:=T29.out.ne 3 0 (by decide) rfl rfl;have ne4:g1≠g3:=T29.out.ne 1 3 (by decide) rfl rfl;have ne5:g3≠g1:=T29.out.ne 3 1 (by decide) rfl rfl;have z1:((Xb (Xq L (.ok a d))).1 != 0)=true:=by(cases h:Xq L (.ok a d)with | ok a d=>(rw[h]at HG;exact absurd rfl HG.out) | bad F=>(rw[bne_iff_ne];exact hnz F h))
   clear p29))
      go_region
      all_goals
       go_wp2
       have hy:=T29.out.put 0 rfl (put2 (T29.out.get 0 rfl) (Λ none 0 0) (Λ none 0 0));have p':=put3 (hy.get 1 rfl) (I J (Xb (Xq L (.ok a d))).1) (I J ((Xb (Xq L (.ok a d))).2.1:Int)) (I J ((Xb (Xq L (.ok a d))).2.2:Int));have hz:=hy.put 1 rfl p';first
       |exact Yp 2 26 3 29 26 29 _ _ _ _ rfl (hz.drew.get 0 rfl) (hz.drew.get 1 rfl) Zck Va Zcl Vb rfl rfl rfl (HP2.out _ _ rfl hz.drew.below)
       |exact Yp 2 26 3 29 26 29 _ _ _ _ rfl (hz.get 0 rfl) (hz.get 1 rfl) Zck Va Zcl Vb rfl rfl rfl (HP2.out _ _ rfl hz.below)
    ·by_cases hk1:Zk L Xp (.ok a d)=1
     ·have hst:=hsc hk1
      have hfr:=hfr hk0;rw[hk1,show((1:Nat):Int)=1 from rfl]at hmy;unfold Zft Zbn at hst;dsimp only at hst;clear hk0 hk1 hsc hsp hfn hle;generalize Ye L Xp (.ok a d)=s1 at *;have hna:∀(x:World)(us:List Value),Zu x r K L→RPv r K L (s1) us→Calls Φ 19 #[.agg us.toArray] x (PVo x r K L (Wp L s1) (Ψ (Zct L s1))):=fun x us h1 h2=>qname x r K L _ us h1 h2
      have r1:=Zbi L s1;generalize Zct L s1=nm at *;generalize Wp L s1=s2 at *;have hj1:∀(x:World)(us:List Value),Zu x r K L→RPv r K L (s2) us→Calls Φ 21 #[.agg us.toArray,Ψ ⟨#[99,111,115,116]⟩] x (PPo x r K L (Zz L Zhx s2)):=fun x us h1 h2=>Jh x r K L _ us Zhx h1 h2
      have r2:=Xx L Zhx s2;generalize Zz L Zhx s2=s3 at *;have hnu:∀(x:World)(us:List Value),Zu x r K L→RPv r K L (s3) us→Calls Φ 20 #[.agg us.toArray] x (PVo x r K L (Zbt L s3) (I J (Zgr L s3))):=fun x us h1 h2=>Zom x r K L _ us h1 h2
      have r3:=Zjm L s3;generalize Zgr L s3=cn at *;generalize Zbt L s3=s4 at *;have hj2:∀(x:World)(us:List Value),Zu x r K L→RPv r K L (s4) us→Calls Φ 21 #[.agg us.toArray,Ψ ⟨#[112,111,119,101,114]⟩] x (PPo x r K L (Zz L Zhf s4)):=fun x us h1 h2=>Jh x r K L _ us Zhf h1 h2
      have r4:=Xx L Zhf s4;generalize Zz L Zhf s4=s5 at *;have hsi:∀(x:World)(us:List Value),Zu x r K L→RPv r K L (s5) us→Calls Φ 22 #[.agg us.toArray] x (PVo x r K L (Zbe L s5) (I J (Zeh L s5))):=fun x us h1 h2=>Zlq x r K L _ us h1 h2
      have r5:=Zio L s5;generalize Zeh L s5=pw at *;generalize Zbe L s5=s6 at *;have hj3:∀(x:World)(us:List Value),Zu x r K L→RPv r K L (s6) us→Calls Φ 21 #[.agg us.toArray,Ψ ⟨#[123]⟩] x (PPo x r K L (Zz L Yu s6)):=fun x us h1 h2=>Jh x r K L _ us Yu h1 h2
      have r6:=Xx L Yu s6;generalize Zz L Yu s6=s7 at *;have hru:∀(x:World)(us:List Value),Zu x r K L→RPv r K L (s7) us→Calls Φ 23 #[.agg us.toArray] x (PRo x r K L (Wi 3 L m s7).2 (Wi 3 L m s7).1.length (Un (Wi 3 L m s7).1)):=fun x us h1 h2=>qrules m x r K L _ us h1 h2 (by omega) (by have:=HN.out;omega)
      have r7:=Zjl L 3 m s7;generalize Wi 3 L m s7=ru at *;have hj4:∀(x:World)(us:List Value),Zu x r K L→RPv r K L (ru.2) us→Calls Φ 21 #[.agg us.toArray,Ψ ⟨#[125]⟩] x (PPo x r K L (Zz L Xl ru.2)):=fun x us h1 h2=>Jh x r K L _ us Xl h1 h2
      have r8:=Xx L Xl ru.2;generalize Zz L Xl ru.2=s9 at *;have HS:=Hh hst;have HM:=Hh (show cs.length+ps.length≤68719476736∧8*Zx L s9+10≤m∧m≤n∧cs.length+ps.length+1+Zx L s9≤Zx L st∧Zx L s9<Zx L (.ok a d) by have:=HN.out;omega);have HX:=Hh hxl;clear hst hfr hm hmn hacc hxl r1 r2 r3 r4 r5 r6 r7 r8;go_wp2_with(first
 |((with_reducible refine Zd 18 ?_);refine Xn 49 _ 51 g3 0 ([]) ([Λ (some ⟨r,0,none⟩) nn K,I J (a:Int),I J (d:Int)]) ([I J 0,I J 0,I J 0]) (T20.out.get 3 rfl) rfl Zbh Wl rfl rfl rfl ?_)
 |(go_at_call 17;refine(hhe _ ((Zu.of (T20.out.leaf 0 rfl) HK.out) HPO.out)).mono ?_;rintro e w21 ⟨rfl,b21⟩
   have T21:=Hh (T20.out.call b21);clear b21)
 |((with_reducible refine Zd 6 ?_);refine Zb T21.out 54 _ rfl rfl Zle ?_;intro w22 g4 t22
   have T22:=Hh (t22);clear t22)
 |((with_reducible refine Zg 6 19 ?_);refine Za 54 _ _ 54 g4 _ ([I J tv.k,Ψ tv.t,I J tv.n,I J (tv.line:Int),I J (tv.col:Int)]) (T22.out.get 4 rfl) rfl Zdb (by simp[Γ]) rfl rfl rfl rfl rfl ?_
   intro w23 p23;have T23:=Hh (T22.out.put 4 rfl p23);clear p23)
 |((with_reducible refine Zd 21 ?_);refine Zc 51 _ 51 g3 _ (T23.out.get 3 rfl) Zm Yc rfl rfl rfl ?_)
 |(go_at_call 18;refine(hmy _ _ (Zu.of (T23.out.leaf 0 rfl) HK.out) HP.out).mono ?_;rintro e w24 ⟨v1,rfl,h1,b24⟩
   have T24:=Hh (T23.out.call b24);clear b24)
 |((with_reducible refine Zd 7 ?_);refine Zb T24.out 51 _ rfl rfl z_P ?_;intro w25 g5 t25
   have T25:=Hh (t25);clear t25)
 |((with_reducible refine Zg 7 24 ?_);refine Za 51 _ _ 51 g5 _ (v1) (T25.out.get 5 rfl) h1.len (Ze h1.len) h1.one rfl rfl rfl rfl rfl ?_
   intro w26 p26;have T26:=Hh (T25.out.put 5 rfl p26);clear p26)
 |((with_reducible refine Zd 26 ?_);refine Zc 51 _ 51 g5 _ (T26.out.get 5 rfl) Zm (Ze h1.len) rfl rfl rfl ?_)
 |((with_reducible refine Zg 5 26 ?_);refine Za 51 _ _ 51 g3 _ (v1) (T26.out.get 3 rfl) h1.len (Ze h1.len) h1.one rfl rfl rfl rfl rfl ?_
   intro w27 p27;have T27:=Hh (T26.out.put 3 rfl p27);have hli:=T27.out.cell 4 3 rfl rfl;have hco:=T27.out.cell 4 4 rfl rfl;clear p27)
 |((with_reducible refine Zd 9 ?_);refine Zb T27.out 36 _ rfl rfl z_ca ?_;intro w28 g6 t28
   have T28:=Hh (t28);clear t28)
 |((with_reducible refine Zg 9 33 ?_);refine Za 36 _ _ 36 g6 _ ([Ψ ⟨#[]⟩,I J 0,I J 0,I J (tv.line:Int),I J (tv.col:Int),Λ none 0 0]) (T28.out.get 6 rfl) rfl size_ca (by simp[Γ]) rfl rfl rfl rfl rfl ?_
   intro w29 p29;have T29:=Hh (T28.out.put 6 rfl p29);clear p29)
 |((with_reducible refine Zd 35 ?_);refine Zc 51 _ 51 g3 _ (T29.out.get 3 rfl) Zm (Ze h1.len) rfl rfl rfl ?_)
 |(go_at_call 19;(with_reducible refine(hna _ v1 (Zu.of (T29.out.leaf 0 rfl) HK.out) h1).mono ?_);rintro e w30 ⟨v2,rfl,h2,b30⟩
   have T30:=Hh (T29.out.call b30);clear b30)
 |((with_reducible refine Zg 5 37 ?_);refine Za 51 _ _ 51 g3 _ (v2) (T30.out.get 3 rfl) (h2.len.trans h1.len.symm) (Ze h2.len) h2.one rfl rfl rfl rfl rfl ?_
   intro w31 p31;have T31:=Hh (T30.out.put 3 rfl p31);clear p31)
 |((with_reducible refine Zg 39 38 ?_);refine Zp 9 _ _ 36 g6 0 [] (Ψ ⟨#[]⟩) (Ψ nm) [I J 0,I J 0,I J (tv.line:Int),I J (tv.col:Int),Λ none 0 0] (T31.out.get 6 rfl) rfl Zij rfl rfl rfl rfl rfl rfl ?_
   intro w32 p32;have T32:=Hh (T31.out.put 6 rfl p32);clear p32)
 |((with_reducible refine Zd 43 ?_);refine Zc 51 _ 51 g3 _ (T32.out.get 3 rfl) Zm (Ze h2.len) rfl rfl rfl ?_)
 |(go_at_call 21;(with_reducible refine(hj1 _ v2 (Zu.of (T32.out.leaf 0 rfl) HK.out) h2).mono ?_);rintro e w33 ⟨v3,rfl,h3,b33⟩
   have T33:=Hh (T32.out.call b33);clear b33)
 |(go_at_call 20;(with_reducible refine(hnu _ v3 (Zu.of (T33.out.leaf 0 rfl) HK.out) h3).mono ?_);rintro e w34 ⟨v4,rfl,h4,b34⟩
   have T34:=Hh (T33.out.call b34);clear b34)
 |((with_reducible refine Zg 5 46 ?_);refine Za 51 _ _ 51 g3 _ (v4) (T34.out.get 3 rfl) (h4.len.trans h2.len.symm) (Ze h4.len) h4.one rfl rfl rfl rfl rfl ?_
   intro w35 p35;have T35:=Hh (T34.out.put 3 rfl p35);clear p35)
 |((with_reducible refine Zg 48 47 ?_);refine Zp 3 _ _ 36 g6 1 [Ψ nm] (I J 0) (I J cn) [I J 0,I J (tv.line:Int),I J (tv.col:Int),Λ none 0 0] (T35.out.get 6 rfl) rfl Yw rfl rfl rfl rfl rfl rfl ?_
   intro w36 p36;have T36:=Hh (T35.out.put 6 rfl p36);clear p36)
 |((with_reducible refine Zd 50 ?_);refine Zc 51 _ 51 g3 _ (T36.out.get 3 rfl) Zm (Ze h4.len) rfl rfl rfl ?_)
 |(go_at_call 21;(with_reducible refine(hj2 _ v4 (Zu.of (T36.out.leaf 0 rfl) HK.out) h4).mono ?_);rintro e w37 ⟨v5,rfl,h5,b37⟩
   have T37:=Hh (T36.out.call b37);clear b37)
 |(go_at_call 22;(with_reducible refine(hsi _ v5 (Zu.of (T37.out.leaf 0 rfl) HK.out) h5).mono ?_);rintro e w38 ⟨v6,rfl,h6,b38⟩
   have T38:=Hh (T37.out.call b38);clear b38)
 |((with_reducible refine Zg 5 53 ?_);refine Za 51 _ _ 51 g3 _ (v6) (T38.out.get 3 rfl) (h6.len.trans h4.len.symm) (Ze h6.len) h6.one rfl rfl rfl rfl rfl ?_
   intro w39 p39;have T39:=Hh (T38.out.put 3 rfl p39);clear p39)
 |((with_reducible refine Zg 55 54 ?_);refine Zp 3 _ _ 36 g6 2 [Ψ nm,I J cn] (I J 0) (I J pw) [I J (tv.line:Int),I J (tv.col:Int),Λ none 0 0] (T39.out.get 6 rfl) rfl Yw rfl rfl rfl rfl rfl rfl ?_
   intro w40 p40;have T40:=Hh (T39.out.put 6 rfl p40);clear p40)
 |((with_reducible refine Zd 57 ?_);refine Zc 51 _ 51 g3 _ (T40.out.get 3 rfl) Zm (Ze h6.len) rfl rfl rfl ?_)
 |(go_at_call 21;(with_reducible refine(hj3 _ v6 (Zu.of (T40.out.leaf 0 rfl) HK.out) h6).mono ?_);rintro e w41 ⟨v7,rfl,h7,b41⟩
   have T41:=Hh (T40.out.call b41);clear b41)
 |(go_at_call 23;(with_reducible refine(hru _ v7 (Zu.of (T41.out.leaf 0 rfl) HK.out) h7).mono ?_);rintro e w42 ⟨v8,f8,rfl,h8,d8,b42⟩
   obtain⟨A8,c8,rfl⟩:=d8.slice;have T42:=Hh (T41.out.tree b42 d8);clear d8;clear b42)
 |((with_reducible refine Zg 5 60 ?_);refine Za 51 _ _ 51 g3 _ (v8) (T42.out.get 3 rfl) (h8.len.trans h6.len.symm) (Ze h8.len) h8.one rfl rfl rfl rfl rfl ?_
   intro w43 p43;have T43:=Hh (T42.out.put 3 rfl p43);clear p43)
 |((with_reducible refine Zg 62 61 ?_);refine Zp 34 _ _ 36 g6 5 [Ψ nm,I J cn,I J pw,I J (tv.line:Int),I J (tv.col:Int)] (Λ none 0 0) (Λ A8 ru.1.length c8) [] (T43.out.get 6 rfl) rfl size_rus rfl rfl rfl rfl rfl rfl ?_
   intro w44 p44;have T44:=Hh (T43.out.put 6 rfl p44);clear p44)
 |((with_reducible refine Zd 63 ?_);refine Zc 51 _ 51 g3 _ (T44.out.get 3 rfl) Zm (Ze h8.len) rfl rfl rfl ?_)
 |(go_at_call 21;(with_reducible refine(hj4 _ v8 (Zu.of (T44.out.leaf 0 rfl) HK.out) h8).mono ?_);rintro e w45 ⟨v9,rfl,h9,b45⟩
   have T45:=Hh (T44.out.call b45);clear b45)
 |((with_reducible refine Zg 5 64 ?_);refine Za 51 _ _ 51 g3 _ (v9) (T45.out.get 3 rfl) (h9.len.trans h8.len.symm) (Ze h9.len) h9.one rfl rfl rfl rfl rfl ?_
   intro w46 p46;have T46:=Hh (T45.out.put 3 rfl p46);obtain⟨m0,m1,n0,n1⟩:=Zhc (T46.out.get 2 rfl);clear p46)
 |((with_reducible refine Zd 69 ?_);refine Zc 36 _ 36 g6 _ (T46.out.get 6 rfl) row_ca size_ca rfl rfl rfl ?_)
 |((with_reducible refine Zd 70 ?_);refine Uz 23 36 _ 70 6 72 _ [Ψ nm,I J cn,I J pw,I J (tv.line:Int),I J (tv.col:Int),Λ A8 ru.1.length c8] info_ca rfl (by decide) (by decide) und_cas rfl rfl rfl rfl ?_)
 |(at_builtin;refine Wf (.tmp 68) (.tmp 70) 23 36 6 72 _ und_cas info_ca rfl (by decide) (by decide) w.heap.size (Λ Ac cs.length kc) cs.length xc [Ψ nm,I J cn,I J pw,I J (tv.line:Int),I J (tv.col:Int),Λ A8 ru.1.length c8] ((T46.out.call (Zh w46 (.cells ([Ψ nm,I J cn,I J pw,I J (tv.line:Int),I J (tv.col:Int),Λ A8 ru.1.length c8]:List Value).toArray 36))).row _ List.mem_cons_self) w46.heap.size (Zi.made _ _ _) rfl (by simp[Γ]) (by have:=HM.out;omega) (T46.out.call (Zh w46 (.cells ([Ψ nm,I J cn,I J pw,I J (tv.line:Int),I J (tv.col:Int),Λ A8 ru.1.length c8]:List Value).toArray 36))).below.size rfl rfl rfl rfl ?_
   intro v9_ w47 o9 g9 at9;obtain⟨A9,c9,rfl,_,_,_⟩:=Yx o9;have T47:=Hh ((T46.out.call (Zh w46 (.cells ([Ψ nm,I J cn,I J pw,I J (tv.line:Int),I J (tv.col:Int),Λ A8 ru.1.length c8]:List Value).toArray 36))).pushL o9 g9 at9);clear o9 g9 at9)
 |((with_reducible refine Zg 72 71 ?_);refine Zp 23 _ _ 26 g2 0 [] (Λ Ac cs.length kc) (Λ A9 (cs.length+1) c9) [Λ Ap ps.length kp] (T47.out.get 2 rfl) rfl size_cas rfl rfl rfl rfl rfl rfl ?_
   intro w48 p48;have T48:Hid (Env w [(g0,26,[Λ none 0 0,Λ none 0 0]),(g1,29,[I J 0,I J 0,I J 0]),(g2,26,[Λ A9 (cs.length+1) c9,Λ Ap ps.length kp]),(g3,51,v9),(g4,54,[I J tv.k,Ψ tv.t,I J tv.n,I J (tv.line:Int),I J (tv.col:Int)]),(g5,51,v1),(g6,36,[Ψ nm,I J cn,I J pw,I J (tv.line:Int),I J (tv.col:Int),Λ A8 ru.1.length c8])] [⟨Λ A9 (cs.length+1) c9,36,6,cs.length+1,xc++[Ψ nm,I J cn,I J pw,I J (tv.line:Int),I J (tv.col:Int),Λ A8 ru.1.length c8]⟩,⟨Λ Ap ps.length kp,45,4,ps.length,xp⟩] [(.row L.length (Zcj L) .nil,[Λ A1 L.length k1]),(Zcg cs,xc),(Zde ps,xp),(.row ru.1.length (Un ru.1) .nil,[Λ A8 ru.1.length c8])] w48):=Hh (T47.out.put 2 rfl p48)
   clear p48))
      (try go_simp)
      go_roundw
      case rel=>
       first
       |refine⟨m,cs++[⟨nm,cn,pw,(tv.line:Int),(tv.col:Int),ru.1⟩],ps,xc++[Ψ nm,I J cn,I J pw,I J (tv.line:Int),I J (tv.col:Int),Λ A8 ru.1.length c8],xp,Λ A9 (cs.length+1) c9,Λ Ap ps.length kp,s9,v9,?_,h9,?_,?_,?_,?_,?_⟩
       |(repeat apply Exists.intro;refine⟨⟨m,cs++[⟨nm,cn,pw,(tv.line:Int),(tv.col:Int),ru.1⟩],ps,xc++[Ψ nm,I J cn,I J pw,I J (tv.line:Int),I J (tv.col:Int),Λ A8 ru.1.length c8],xp,Λ A9 (cs.length+1) c9,Λ Ap ps.length kp,s9,v9,?_,h9,?_,?_,?_,?_,?_⟩,rfl⟩)
       ·rw[List.length_append]
        refine T48.out.file (bs:=[(g0,26,[Λ none 0 0,Λ none 0 0]),(g1,29,[I J 0,I J 0,I J 0]),(g2,26,[Λ A9 (cs.length+1) c9,Λ Ap ps.length kp]),(g3,51,v9)]) (T48.out.leafF (bs:=[(g0,26,[Λ none 0 0,Λ none 0 0]),(g1,29,[I J 0,I J 0,I J 0]),(g2,26,[Λ A9 (cs.length+1) c9,Λ Ap ps.length kp]),(g3,51,v9)]) 0 rfl) ?_ (T48.out.leafF (bs:=[(g0,26,[Λ none 0 0,Λ none 0 0]),(g1,29,[I J 0,I J 0,I J 0]),(g2,26,[Λ A9 (cs.length+1) c9,Λ Ap ps.length kp]),(g3,51,v9)]) 2 rfl);have hD:=(T48.out.leafF (bs:=[(g0,26,[Λ none 0 0,Λ none 0 0]),(g1,29,[I J 0,I J 0,I J 0]),(g2,26,[Λ A9 (cs.length+1) c9,Λ Ap ps.length kp]),(g3,51,v9)]) 3 rfl)
        show Zs _ _ (Zcg (cs++[_])) _;rw[casDs_snoc];exact Zs.app (show Zs _ _ (Ca.ds _) _ from⟨_,rfl,_,rfl,_,rfl,_,rfl,_,rfl,hD⟩) (T48.out.leafF (bs:=[(g0,26,[Λ none 0 0,Λ none 0 0]),(g1,29,[I J 0,I J 0,I J 0]),(g2,26,[Λ A9 (cs.length+1) c9,Λ Ap ps.length kp]),(g3,51,v9)]) 1 rfl)
       ·have:=HM.out;omega
       ·have:=HM.out;omega
       ·simp only[List.length_append,List.length_cons,List.length_nil];have:=HM.out;omega
       ·rw[HE.out,HS.out];simp
       ·simp only[List.length_append,List.length_cons,List.length_nil];have:=HX.out;omega
      case measure=>
       have h17:=Jg h9 (T48.out.get 3 rfl);have h18:=HB.out;have:=HM.out;rw[h17,h18];omega
     ·have hk2:Zk L Xp (.ok a d)=2:=by have:Zk L Xp (.ok a d)≤2:=hle;omega
      have hst:=hsp hk2;have hfr:=hfr hk0;rw[hk2,show((2:Nat):Int)=2 from rfl]at hmy;unfold Vj Zbn at hst;dsimp only at hst;clear hk0 hk1 hk2 hsc hsp hfn hle;generalize Ye L Xp (.ok a d)=s1 at *;have hna:∀(x:World)(us:List Value),Zu x r K L→RPv r K L (s1) us→Calls Φ 19 #[.agg us.toArray] x (PVo x r K L (Wp L s1) (Ψ (Zct L s1))):=fun x us h1 h2=>qname x r K L _ us h1 h2
      have r1:=Zbi L s1;generalize Zct L s1=nm at *;generalize Wp L s1=s2 at *;have hj3:∀(x:World)(us:List Value),Zu x r K L→RPv r K L (s2) us→Calls Φ 21 #[.agg us.toArray,Ψ ⟨#[123]⟩] x (PPo x r K L (Zz L Yu s2)):=fun x us h1 h2=>Jh x r K L _ us Yu h1 h2
      have r6:=Xx L Yu s2;generalize Zz L Yu s2=s7 at *;have hru:∀(x:World)(us:List Value),Zu x r K L→RPv r K L (s7) us→Calls Φ 23 #[.agg us.toArray] x (PRo x r K L (Wi 3 L m s7).2 (Wi 3 L m s7).1.length (Un (Wi 3 L m s7).1)):=fun x us h1 h2=>qrules m x r K L _ us h1 h2 (by omega) (by have:=HN.out;omega)
      have r7:=Zjl L 3 m s7;generalize Wi 3 L m s7=ru at *;have hj4:∀(x:World)(us:List Value),Zu x r K L→RPv r K L (ru.2) us→Calls Φ 21 #[.agg us.toArray,Ψ ⟨#[125]⟩] x (PPo x r K L (Zz L Xl ru.2)):=fun x us h1 h2=>Jh x r K L _ us Xl h1 h2
      have r8:=Xx L Xl ru.2;generalize Zz L Xl ru.2=s9 at *;have HS:=Hh hst;have HM:=Hh (show cs.length+ps.length≤68719476736∧8*Zx L s9+10≤m∧m≤n∧cs.length+ps.length+1+Zx L s9≤Zx L st∧Zx L s9<Zx L (.ok a d) by have:=HN.out;omega);have HX:=Hh hxl;clear hst hfr hm hmn hacc hxl r1 r6 r7 r8;go_wp2_with(first
 |((with_reducible refine Zd 18 ?_);refine Xn 49 _ 51 g3 0 ([]) ([Λ (some ⟨r,0,none⟩) nn K,I J (a:Int),I J (d:Int)]) ([I J 0,I J 0,I J 0]) (T20.out.get 3 rfl) rfl Zbh Wl rfl rfl rfl ?_)
 |(go_at_call 17;refine(hhe _ ((Zu.of (T20.out.leaf 0 rfl) HK.out) HPO.out)).mono ?_;rintro e w21 ⟨rfl,b21⟩
   have T21:=Hh (T20.out.call b21);clear b21)
 |((with_reducible refine Zd 6 ?_);refine Zb T21.out 54 _ rfl rfl Zle ?_;intro w22 g4 t22
   have T22:=Hh (t22);clear t22)
 |((with_reducible refine Zg 6 19 ?_);refine Za 54 _ _ 54 g4 _ ([I J tv.k,Ψ tv.t,I J tv.n,I J (tv.line:Int),I J (tv.col:Int)]) (T22.out.get 4 rfl) rfl Zdb (by simp[Γ]) rfl rfl rfl rfl rfl ?_
   intro w23 p23;have T23:=Hh (T22.out.put 4 rfl p23);clear p23)
 |((with_reducible refine Zd 21 ?_);refine Zc 51 _ 51 g3 _ (T23.out.get 3 rfl) Zm Yc rfl rfl rfl ?_)
 |(go_at_call 18;refine(hmy _ _ (Zu.of (T23.out.leaf 0 rfl) HK.out) HP.out).mono ?_;rintro e w24 ⟨v1,rfl,h1,b24⟩
   have T24:=Hh (T23.out.call b24);clear b24)
 |((with_reducible refine Zd 7 ?_);refine Zb T24.out 51 _ rfl rfl z_P ?_;intro w25 g5 t25
   have T25:=Hh (t25);clear t25)
 |((with_reducible refine Zg 7 24 ?_);refine Za 51 _ _ 51 g5 _ (v1) (T25.out.get 5 rfl) h1.len (Ze h1.len) h1.one rfl rfl rfl rfl rfl ?_
   intro w26 p26;have T26:=Hh (T25.out.put 5 rfl p26);clear p26)
 |((with_reducible refine Zd 26 ?_);refine Zc 51 _ 51 g5 _ (T26.out.get 5 rfl) Zm (Ze h1.len) rfl rfl rfl ?_)
 |((with_reducible refine Zg 5 26 ?_);refine Za 51 _ _ 51 g3 _ (v1) (T26.out.get 3 rfl) h1.len (Ze h1.len) h1.one rfl rfl rfl rfl rfl ?_
   intro w27 p27;have T27:=Hh (T26.out.put 3 rfl p27);have hli:=T27.out.cell 4 3 rfl rfl;have hco:=T27.out.cell 4 4 rfl rfl;clear p27)
 |((with_reducible refine Zd 9 ?_);refine Zb T27.out 36 _ rfl rfl z_ca ?_;intro w28 g6 t28
   have T28:=Hh (t28);clear t28)
 |((with_reducible refine Zg 9 33 ?_);refine Za 36 _ _ 36 g6 _ ([Ψ ⟨#[]⟩,I J 0,I J 0,I J (tv.line:Int),I J (tv.col:Int),Λ none 0 0]) (T28.out.get 6 rfl) rfl size_ca (by simp[Γ]) rfl rfl rfl rfl rfl ?_
   intro w29 p29;have T29:=Hh (T28.out.put 6 rfl p29);clear p29)
 |((with_reducible refine Zd 35 ?_);refine Zc 51 _ 51 g3 _ (T29.out.get 3 rfl) Zm (Ze h1.len) rfl rfl rfl ?_)
 |(go_at_call 19;(with_reducible refine(hna _ v1 (Zu.of (T29.out.leaf 0 rfl) HK.out) h1).mono ?_);rintro e w30 ⟨v2,rfl,h2,b30⟩
   have T30:=Hh (T29.out.call b30);clear b30)
 |((with_reducible refine Zg 5 37 ?_);refine Za 51 _ _ 51 g3 _ (v2) (T30.out.get 3 rfl) (h2.len.trans h1.len.symm) (Ze h2.len) h2.one rfl rfl rfl rfl rfl ?_
   intro w31 p31;have T31:=Hh (T30.out.put 3 rfl p31);clear p31)
 |((with_reducible refine Zg 39 38 ?_);refine Zp 9 _ _ 36 g6 0 [] (Ψ ⟨#[]⟩) (Ψ nm) [I J 0,I J 0,I J (tv.line:Int),I J (tv.col:Int),Λ none 0 0] (T31.out.get 6 rfl) rfl Zij rfl rfl rfl rfl rfl rfl ?_
   intro w32 p32;have T32:=Hh (T31.out.put 6 rfl p32);clear p32)
 |((with_reducible refine Zd 57 ?_);refine Zc 51 _ 51 g3 _ (T32.out.get 3 rfl) Zm (Ze h2.len) rfl rfl rfl ?_)
 |(go_at_call 21;(with_reducible refine(hj3 _ v2 (Zu.of (T32.out.leaf 0 rfl) HK.out) h2).mono ?_);rintro e w33 ⟨v7,rfl,h7,b33⟩
   have T33:=Hh (T32.out.call b33);clear b33)
 |(go_at_call 23;(with_reducible refine(hru _ v7 (Zu.of (T33.out.leaf 0 rfl) HK.out) h7).mono ?_);rintro e w34 ⟨v8,f8,rfl,h8,d8,b34⟩
   obtain⟨A8,c8,rfl⟩:=d8.slice;have T34:=Hh (T33.out.tree b34 d8);clear d8;clear b34)
 |((with_reducible refine Zg 5 60 ?_);refine Za 51 _ _ 51 g3 _ (v8) (T34.out.get 3 rfl) (h8.len.trans h2.len.symm) (Ze h8.len) h8.one rfl rfl rfl rfl rfl ?_
   intro w35 p35;have T35:=Hh (T34.out.put 3 rfl p35);clear p35)
 |((with_reducible refine Zg 62 61 ?_);refine Zp 34 _ _ 36 g6 5 [Ψ nm,I J 0,I J 0,I J (tv.line:Int),I J (tv.col:Int)] (Λ none 0 0) (Λ A8 ru.1.length c8) [] (T35.out.get 6 rfl) rfl size_rus rfl rfl rfl rfl rfl rfl ?_
   intro w36 p36;have T36:=Hh (T35.out.put 6 rfl p36);clear p36)
 |((with_reducible refine Zd 63 ?_);refine Zc 51 _ 51 g3 _ (T36.out.get 3 rfl) Zm (Ze h8.len) rfl rfl rfl ?_)
 |(go_at_call 21;(with_reducible refine(hj4 _ v8 (Zu.of (T36.out.leaf 0 rfl) HK.out) h8).mono ?_);rintro e w37 ⟨v9,rfl,h9,b37⟩
   have T37:=Hh (T36.out.call b37);clear b37)
 |((with_reducible refine Zg 5 64 ?_);refine Za 51 _ _ 51 g3 _ (v9) (T37.out.get 3 rfl) (h9.len.trans h8.len.symm) (Ze h9.len) h9.one rfl rfl rfl rfl rfl ?_
   intro w38 p38;have T38:=Hh (T37.out.put 3 rfl p38);obtain⟨m0,m1,n0,n1⟩:=Zhc (T38.out.get 2 rfl);have ca0:=T38.out.cell 6 0 rfl rfl;have ca3:=T38.out.cell 6 3 rfl rfl;have ca4:=T38.out.cell 6 4 rfl rfl;have ca5:=T38.out.cell 6 5 rfl rfl;clear p38)
 |((with_reducible refine Zd 84 ?_);refine Uz 24 45 _ 84 4 56 _ [Ψ nm,I J (tv.line:Int),I J (tv.col:Int),Λ A8 ru.1.length c8] info_pl rfl (by decide) (by decide) und_pls rfl rfl rfl rfl ?_)
 |(at_builtin;refine Wf (.tmp 74) (.tmp 84) 24 45 4 56 _ und_pls info_pl rfl (by decide) (by decide) w.heap.size (Λ Ap ps.length kp) ps.length xp [Ψ nm,I J (tv.line:Int),I J (tv.col:Int),Λ A8 ru.1.length c8] ((T38.out.call (Zh w38 (.cells ([Ψ nm,I J (tv.line:Int),I J (tv.col:Int),Λ A8 ru.1.length c8]:List Value).toArray 45))).row _ (List.mem_cons_of_mem _ (List.mem_singleton.2 rfl))) w38.heap.size (Zi.made _ _ _) rfl (by simp[Γ]) (by have:=HM.out;omega) (T38.out.call (Zh w38 (.cells ([Ψ nm,I J (tv.line:Int),I J (tv.col:Int),Λ A8 ru.1.length c8]:List Value).toArray 45))).below.size rfl rfl rfl rfl ?_
   intro v9_ w39 o9 g9 at9;obtain⟨A9,c9,rfl,_,_,_⟩:=Yx o9;have T39:=Hh ((T38.out.call (Zh w38 (.cells ([Ψ nm,I J (tv.line:Int),I J (tv.col:Int),Λ A8 ru.1.length c8]:List Value).toArray 45))).pushR o9 g9 at9);clear o9 g9 at9)
 |((with_reducible refine Zg 86 85 ?_);refine Zp 24 _ _ 26 g2 1 [Λ Ac cs.length kc] (Λ Ap ps.length kp) (Λ A9 (ps.length+1) c9) [] (T39.out.get 2 rfl) rfl size_pls rfl rfl rfl rfl rfl rfl ?_
   intro w40 p40;have T40:Hid (Env w [(g0,26,[Λ none 0 0,Λ none 0 0]),(g1,29,[I J 0,I J 0,I J 0]),(g2,26,[Λ Ac cs.length kc,Λ A9 (ps.length+1) c9]),(g3,51,v9),(g4,54,[I J tv.k,Ψ tv.t,I J tv.n,I J (tv.line:Int),I J (tv.col:Int)]),(g5,51,v1),(g6,36,[Ψ nm,I J 0,I J 0,I J (tv.line:Int),I J (tv.col:Int),Λ A8 ru.1.length c8])] [⟨Λ Ac cs.length kc,36,6,cs.length,xc⟩,⟨Λ A9 (ps.length+1) c9,45,4,ps.length+1,xp++[Ψ nm,I J (tv.line:Int),I J (tv.col:Int),Λ A8 ru.1.length c8]⟩] [(.row L.length (Zcj L) .nil,[Λ A1 L.length k1]),(Zcg cs,xc),(Zde ps,xp),(.row ru.1.length (Un ru.1) .nil,[Λ A8 ru.1.length c8])] w40):=Hh (T39.out.put 2 rfl p40)
   clear p40))
      (try go_simp)
      go_roundw
      case rel=>
       first
       |refine⟨m,cs,ps++[⟨nm,(tv.line:Int),(tv.col:Int),ru.1⟩],xc,xp++[Ψ nm,I J (tv.line:Int),I J (tv.col:Int),Λ A8 ru.1.length c8],Λ Ac cs.length kc,Λ A9 (ps.length+1) c9,s9,v9,?_,h9,?_,?_,?_,?_,?_⟩
       |(repeat apply Exists.intro;refine⟨⟨m,cs,ps++[⟨nm,(tv.line:Int),(tv.col:Int),ru.1⟩],xc,xp++[Ψ nm,I J (tv.line:Int),I J (tv.col:Int),Λ A8 ru.1.length c8],Λ Ac cs.length kc,Λ A9 (ps.length+1) c9,s9,v9,?_,h9,?_,?_,?_,?_,?_⟩,rfl⟩)
       ·rw[List.length_append]
        refine T40.out.file (bs:=[(g0,26,[Λ none 0 0,Λ none 0 0]),(g1,29,[I J 0,I J 0,I J 0]),(g2,26,[Λ Ac cs.length kc,Λ A9 (ps.length+1) c9]),(g3,51,v9)]) (T40.out.leafF (bs:=[(g0,26,[Λ none 0 0,Λ none 0 0]),(g1,29,[I J 0,I J 0,I J 0]),(g2,26,[Λ Ac cs.length kc,Λ A9 (ps.length+1) c9]),(g3,51,v9)]) 0 rfl) (T40.out.leafF (bs:=[(g0,26,[Λ none 0 0,Λ none 0 0]),(g1,29,[I J 0,I J 0,I J 0]),(g2,26,[Λ Ac cs.length kc,Λ A9 (ps.length+1) c9]),(g3,51,v9)]) 1 rfl) ?_;have hD:=(T40.out.leafF (bs:=[(g0,26,[Λ none 0 0,Λ none 0 0]),(g1,29,[I J 0,I J 0,I J 0]),(g2,26,[Λ Ac cs.length kc,Λ A9 (ps.length+1) c9]),(g3,51,v9)]) 3 rfl)
        show Zs _ _ (Zde (ps++[_])) _;rw[Zkt];exact Zs.app (show Zs _ _ (Pl.ds _) _ from⟨_,rfl,_,rfl,_,rfl,hD⟩) (T40.out.leafF (bs:=[(g0,26,[Λ none 0 0,Λ none 0 0]),(g1,29,[I J 0,I J 0,I J 0]),(g2,26,[Λ Ac cs.length kc,Λ A9 (ps.length+1) c9]),(g3,51,v9)]) 2 rfl)
       ·have:=HM.out;omega
       ·have:=HM.out;omega
       ·simp only[List.length_append,List.length_cons,List.length_nil];have:=HM.out;omega
       ·rw[HE.out,HS.out];simp
       ·simp only[List.length_append,List.length_cons,List.length_nil];have:=HX.out;omega
      case measure=>
       have h17:=Jg h9 (T40.out.get 3 rfl);have h18:=HB.out;have:=HM.out;rw[h17,h18];omega
end Go.Proofs.YtbdecchpleiepaaGreat
