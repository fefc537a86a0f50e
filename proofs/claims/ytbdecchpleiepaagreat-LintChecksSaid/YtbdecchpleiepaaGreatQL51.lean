/- Parts of the proof. No conditions but those that each names. -/
import Derived.Test.YtbdecchpleiepaaGreatQL47
import Derived.Test.YtbdecchpleiepaaGreatQL48
import Derived.Test.YtbdecchpleiepaaGreatQL50
set_option maxRecDepth 20000
set_option maxHeartbeats 99000000
set_option linter.unusedVariables false
set_option linter.unusedSimpArgs false
namespace Go.Proofs.YtbdecchpleiepaaGreat
open Go.Value renaming int→I,slice→Λ,string→Ψ,oneCell'→Γ
open Go.IntKind renaming i64→J
open _root_.Go.Proofs.Tryz renaming prog→Φ
open Nat renaming le_refl→Θ
open Nat renaming le_trans→Ξ
open And renaming intro→ζ
open Go.Ending renaming returned→η
open Go.ChangeShapes Go.WideShapes Go.ChangeAt Go.RowKit
theorem Zle:(Tryz.prog.info? 54).map (fun i=>i.zero.map Value.cells)=some (some ([I J 0,Ψ ⟨#[]⟩,I J 0,I J 0,I J 0]:List Value).toArray):=by kernel_rfl
theorem Zdb:(Tryz.prog.info? 54).map (·.size)=some 5:=by kernel_rfl
theorem Env.join{w x:World}{bs cs:List Bk}{rs:List Rw}{ts:List (Ds×List Value)}(h:Env w (bs++cs) rs ts x)(i j:Nat){d1 d2:Ds}{l u:List Value}(hi:ts[i]?=some (d1,l))(hj:ts[j]?=some (d2,u)):Env w bs rs [(d1.app d2,l++u)] x:=by
 have h':=h.less (bs:=bs) (cs:=cs) (ts:=[]) (us:=ts);exact h'.addT (Zs.app ((h.deep _ (List.mem_of_getElem? hj)).mono fun k _ hn=>Zff hn) ((h.deep _ (List.mem_of_getElem? hi)).mono fun k _ hn=>Zff hn))
theorem Env.row0{w x:World}{bs:List Bk}{ts:List (Ds×List Value)}(h:Env w bs [] ts x)(e:TypeId)(sz:Nat):Env w bs [⟨Λ none 0 0,e,sz,0,[]⟩] (ts++[(.nil,[])]) x:=(h.row1 e sz).addT rfl
theorem qact(n:Nat)(ih:Zha n):QActOK (n+1):=by
 intro w r K L st vs k l c ho hp h1 h15 hn hLn;have hpl:¬ k=10→¬ k=11→Ud 3 L (n+1) (AH.zero k l c) k st=⟨(Xi 3 L n (AH.zero k l c) k st).1,.nil,.nil,Zz L Xg (Xi 3 L n (AH.zero k l c) k st).2⟩:=fun a b=>by rw[Ud,if_neg a,if_neg b]
 have hc:k=1∨k=2∨k=3∨k=4∨k=5∨k=6∨k=7∨k=8∨k=9∨k=10∨k=11∨k=12∨k=13∨k=14∨k=15:=by omega
 rcases hc with rfl | rfl | rfl | rfl | rfl | rfl | rfl | rfl | rfl | rfl | rfl | rfl | rfl | rfl | rfl
 ·rw[hpl (by decide) (by decide)]
  exact qplain1 w r K L st vs l c n ho hp (by omega) hLn
 ·rw[hpl (by decide) (by decide)]
  exact qplain2 w r K L st vs l c n ho hp (by omega) hLn
 ·rw[hpl (by decide) (by decide)]
  exact qplain3 w r K L st vs l c n ho hp (by omega) hLn
 ·rw[hpl (by decide) (by decide)]
  exact qplain4 w r K L st vs l c n ho hp (by omega) hLn
 ·rw[hpl (by decide) (by decide)]
  exact qplain5 w r K L st vs l c n ho hp (by omega) hLn
 ·rw[hpl (by decide) (by decide)]
  exact qplain6 w r K L st vs l c n ho hp (by omega) hLn
 ·rw[hpl (by decide) (by decide)]
  exact qplain7 w r K L st vs l c n ho hp (by omega) hLn
 ·rw[hpl (by decide) (by decide)]
  exact qplain8 w r K L st vs l c n ho hp (by omega) hLn
 ·rw[hpl (by decide) (by decide)]
  exact qplain9 w r K L st vs l c n ho hp (by omega) hLn
 ·have e1:Ud 3 L (n+1) (AH.zero ((10:Nat):Int) l c) 10 st=if isS L Zbg (Yt 3 L n (Jm 3 L n (AH.zero ((10:Nat):Int) l c) st).2).2=true then
    ⟨(Jm 3 L n (AH.zero ((10:Nat):Int) l c) st).1,(Yt 3 L n (Jm 3 L n (AH.zero ((10:Nat):Int) l c) st).2).1,(Yt 3 L n (Vu L Zbg (Yt 3 L n (Jm 3 L n (AH.zero ((10:Nat):Int) l c) st).2).2)).1,(Yt 3 L n (Vu L Zbg (Yt 3 L n (Jm 3 L n (AH.zero ((10:Nat):Int) l c) st).2).2)).2⟩
   else⟨(Jm 3 L n (AH.zero ((10:Nat):Int) l c) st).1,(Yt 3 L n (Jm 3 L n (AH.zero ((10:Nat):Int) l c) st).2).1,.nil,(Yt 3 L n (Jm 3 L n (AH.zero ((10:Nat):Int) l c) st).2).2⟩:=by rw[Ud,if_pos rfl]
  rw[e1];by_cases hb:isS L Zbg (Yt 3 L n (Jm 3 L n (AH.zero ((10:Nat):Int) l c) st).2).2=true
  ·rw[if_pos hb]
   exact qif_else w r K L st vs l c n ih ho hp (by omega) hLn hb
  ·rw[if_neg hb]
   exact qif w r K L st vs l c n ih ho hp (by omega) hLn hb
 ·exact qeach w r K L st vs l c n ih ho hp (by omega) hLn
 ·rw[hpl (by decide) (by decide)]
  exact qplain12 w r K L st vs l c n ho hp (by omega) hLn
 ·rw[hpl (by decide) (by decide)]
  exact qplain13 w r K L st vs l c n ho hp (by omega) hLn
 ·rw[hpl (by decide) (by decide)]
  exact qplain14 w r K L st vs l c n ho hp (by omega) hLn
 ·rw[hpl (by decide) (by decide)]
  exact qplain15 w r K L st vs l c n ho hp (by omega) hLn
theorem qacts(n:Nat)(ih:∀ m,m+1≤n→QActOK m):QActsOK n:=by
 intro w r K L st vs ho hp hn hLn;have T0:=Hh (Env.start w);have HN:=Hh (ζ hn hLn);clear hn hLn;go_enter Tryz.func45,Tryz.ntmps45;go_wp2_with(first
 |((with_reducible refine Zd 1 ?_);refine Zf T0.out 51 _ (vs) rfl rfl rfl ?_;intro w1 g0 t1
   have T1:=Hh (t1);clear t1)
 |((with_reducible refine Zd 2 ?_);refine Zb T1.out 51 _ rfl rfl z_P ?_;intro w2 g1 t2
   have T2:Hid (Env w [(g0,51,vs),(g1,51,[Λ none 0 0,I J 0,I J 0,I J 0,I J 0,I J 0])] [] [] w2):=Hh (t2);clear t2))
 go_loopw [4] (fun v wr=>∃(m:Nat)(acc:Acs)(xs:List Value)(s:St)(us:List Value),Env w [(g0,51,us),(g1,51,[Λ none 0 0,I J 0,I J 0,I J 0,I J 0,I J 0])] [⟨v,85,53,acc.len,xs⟩] [(acc.ds,xs)] wr∧RPv r K L s us∧8*Zx L s+8≤m∧m≤n∧acc.len+Zx L s≤Zx L st∧Xm 3 L n st=(acc.app (Xm 3 L m s).1,(Xm 3 L m s).2)∧xs.length=acc.len*53) (fun _ wr=>remB g0 L.length wr)
 case atStart=>exact⟨n,.nil,[],st,vs,T2.out.row0 85 53,hp,HN.out.1,Θ _,by simp[Acs.len],rfl,rfl⟩
 case round=>
  obtain⟨m,acc,xs,s,us,hT,hs,hm,hmn,hacc,heq,_⟩:=hrel;obtain⟨m,rfl⟩:∃ m',m=m'+1:=⟨m - 1,by omega⟩
  obtain⟨A,cp,rfl,_,_,_⟩:=Yx (show World.ownsRow _ w.heap.size 85 53 _ acc.len xs from hT.row _ (List.mem_singleton.2 rfl));have hrem:=Jg hs (hT.get 0 rfl);clear hp;cases s with
  |bad F=>
    have HP:=Hh hs;obtain⟨SA,nb,kb,a,d,rfl,hd,hF⟩:=hs.bad;obtain⟨f0,f1,f2⟩:=F;have z0:(f0 == 0)=false:=by rw[beq_eq_false_iff_ne];exact hF
    obtain⟨c0,c1,c2,c3,c4,c5⟩:=Xu (hT.get 0 rfl);have T20:=Hh hT;have HE:=Hh heq;clear hT hs hm hmn hacc heq hrem hF;go_wp2_with(first
 |((with_reducible refine Zd 43 ?_);refine Zc 51 _ 51 g0 _ (T20.out.get 0 rfl) Zm Yc rfl rfl rfl ?_)
 |((with_reducible refine Zg 2 43 ?_);refine Za 51 _ _ 51 g1 _ ([Λ SA nb kb,I J (a:Int),I J (d:Int),I J f0,I J (f1:Int),I J (f2:Int)]) (T20.out.get 1 rfl) rfl Yc (by simp[Γ]) rfl rfl rfl rfl rfl ?_
   intro w21 p21;have T21:Hid (Env w [(g0,51,[Λ SA nb kb,I J (a:Int),I J (d:Int),I J f0,I J (f1:Int),I J (f2:Int)]),(g1,51,[Λ SA nb kb,I J (a:Int),I J (d:Int),I J f0,I J (f1:Int),I J (f2:Int)])] [⟨Λ A acc.len cp,85,53,acc.len,xs⟩] [(acc.ds,xs)] w21):=Hh (T20.out.put 1 rfl p21)
   clear p21))
    refine Xd 2 51 3 51 _ _ _ rfl (T21.out.get 1 rfl) Zm (Ze HP.out.len) rfl rfl rfl ?_;rw[HE.out,Znc 3 L m _ rfl];dsimp only;rw[Acs.app_nil];exact⟨_,_,rfl,HP.out,Zs.rowOf (T21.out.row _ (List.mem_singleton.2 rfl)) (fun k hk=>hk) (T21.out.leaf 0 rfl),T21.out.below⟩
  |ok a d=>
    have HP:=Hh hs;obtain⟨nn,hnn,rfl,ha,hd⟩:=hs.ok;have hrow:=ho (by omega);have HR:=Hh hrow;have HNN:=Hh (ζ hnn ha);obtain⟨c0,c1,c2,c3,c4,c5⟩:=Xu (hT.get 0 rfl);have hle:=Zen L Wj (.ok a d);have hfr:=Vt (L:=L) (ws:=Wj) (st:=.ok a d);have hfn:=Uh L (ws:=Wj) (st:=.ok a d);have hst:=acts_step 3 L m (.ok a d);have hsp:=Znc 3 L m (.ok a d);have hhe:∀ x,Uw x r K L→Calls Φ 17 #[.agg #[Λ (some ⟨r,0,none⟩) nn K,I J (a:Int),I J (d:Int)],I J 0] x (fun e w'=>e=η (Wz (Yb L a))∧Below x.heap.size x w'):=fun x h=>Zkc x r K L nn a d HNN.out.1 h HNN.out.2
    have hmy:∀(x:World)(us:List Value),Zu x r K L→RPv r K L (.ok a d) us→Calls Φ 18 #[.agg us.toArray,Λ (some ⟨x.heap.size,0,none⟩) 15 15] (x.alloc (.cells #[Ψ ⟨#[112,111,119,101,114]⟩,Ψ ⟨#[115,101,116]⟩,Ψ ⟨#[100,101,115,116,114,111,121]⟩,Ψ ⟨#[109,111,118,101]⟩,Ψ ⟨#[114,101,116,117,114,110]⟩,Ψ ⟨#[115,112,97,119,110]⟩,Ψ ⟨#[100,114,97,119]⟩,Ψ ⟨#[100,105,115,99,97,114,100]⟩,Ψ ⟨#[101,110,101,114,103,121]⟩,Ψ ⟨#[105,102]⟩,Ψ ⟨#[101,97,99,104]⟩,Ψ ⟨#[97,117,114,97]⟩,Ψ ⟨#[100,111,117,98,108,101]⟩,Ψ ⟨#[115,104,105,101,108,100]⟩,Ψ ⟨#[98,97,114]⟩] 9)) (PVo x r K L (Ye L Wj (.ok a d)) (I J (Zk L Wj (.ok a d)))):=fun x us h1 h2=>Zlr x r K _ L (.ok a d) us Wj 15 15 _ rfl rfl h1 h2 rfl (by decide)
    have htk:St.tok L (.ok a d)=Yb L a:=rfl;rw[htk]at hst;clear htk hs hrow hnn;generalize Yb L a=tv at *;generalize Zk L Wj (.ok a d)=k at *;generalize Ye L Wj (.ok a d)=s1 at *;have T20:=Hh hT;have HE:=Hh heq;have HB:=Hh hrem;have hle15:k≤15:=hle;unfold Wz at hhe;clear hT heq hle hrem;by_cases hk0:k=0
    ·have HS:=Hh (ζ (hsp hk0) (hfn hk0))
     subst hk0;rw[show((0:Nat):Int)=0 from rfl]at hmy;clear hst hsp hfn hfr hm hmn hacc hle15;go_wp2_with(first
 |((with_reducible refine Zd 15 ?_);refine Xn 49 _ 51 g0 0 ([]) ([Λ (some ⟨r,0,none⟩) nn K,I J (a:Int),I J (d:Int)]) ([I J 0,I J 0,I J 0]) (T20.out.get 0 rfl) rfl Zbh Wl rfl rfl rfl ?_)
 |(go_at_call 17;refine(hhe _ (HR.out.below T20.out.below)).mono ?_;rintro e w21 ⟨rfl,b21⟩
   have T21:=Hh (T20.out.call b21);clear b21)
 |((with_reducible refine Zd 5 ?_);refine Zb T21.out 54 _ rfl rfl Zle ?_;intro w22 g2 t22
   have T22:=Hh (t22);clear t22)
 |((with_reducible refine Zg 5 16 ?_);refine Za 54 _ _ 54 g2 _ ([I J tv.k,Ψ tv.t,I J tv.n,I J (tv.line:Int),I J (tv.col:Int)]) (T22.out.get 2 rfl) rfl Zdb (by simp[Γ]) rfl rfl rfl rfl rfl ?_
   intro w23 p23;have T23:=Hh (T22.out.put 2 rfl p23);clear p23)
 |((with_reducible refine Zd 18 ?_);refine Zc 51 _ 51 g0 _ (T23.out.get 0 rfl) Zm Yc rfl rfl rfl ?_)
 |(go_at_call 18;refine(hmy _ _ (ho.below T23.out.below) HP.out).mono ?_;rintro e w24 ⟨v1,rfl,h1,b24⟩
   have T24:=Hh (T23.out.call b24);clear b24)
 |((with_reducible refine Zd 6 ?_);refine Zb T24.out 51 _ rfl rfl z_P ?_;intro w25 g3 t25
   have T25:=Hh (t25);clear t25)
 |((with_reducible refine Zg 6 21 ?_);refine Za 51 _ _ 51 g3 _ (v1) (T25.out.get 3 rfl) h1.len (Ze h1.len) h1.one rfl rfl rfl rfl rfl ?_
   intro w26 p26;have T26:=Hh (T25.out.put 3 rfl p26);have hli:=T26.out.cell 2 3 rfl rfl;have hco:=T26.out.cell 2 4 rfl rfl;clear p26)
 |((with_reducible refine Zd 25 ?_);refine Zc 51 _ 51 g3 _ (T26.out.get 3 rfl) Zm (Ze h1.len) rfl rfl rfl ?_)
 |((with_reducible refine Zg 2 25 ?_);refine Za 51 _ _ 51 g1 _ (v1) (T26.out.get 1 rfl) h1.len (Ze h1.len) h1.one rfl rfl rfl rfl rfl ?_
   intro w27 p27;have T27:Hid (Env w [(g0,51,[Λ (some ⟨r,0,none⟩) nn K,I J (a:Int),I J (d:Int),I J 0,I J 0,I J 0]),(g1,51,v1),(g2,54,[I J tv.k,Ψ tv.t,I J tv.n,I J (tv.line:Int),I J (tv.col:Int)]),(g3,51,v1)] [⟨Λ A acc.len cp,85,53,acc.len,xs⟩] [(acc.ds,xs)] w27):=Hh (T26.out.put 1 rfl p27)
   clear p27))
     have hs:=HS.out.2;subst hs;refine Xd 2 51 3 51 _ _ _ rfl (T27.out.get 1 rfl) Zm (Ze h1.len) rfl rfl rfl ?_;rw[HE.out,HS.out.1];dsimp only;rw[Acs.app_nil];exact⟨_,_,rfl,h1,Zs.rowOf (T27.out.row _ (List.mem_singleton.2 rfl)) (fun k hk=>hk) (T27.out.leaf 0 rfl),T27.out.below⟩
    ·have hst:=hst hk0
     have hfr:=hfr hk0;have hac:∀(y:World)(us:List Value),Zu y r K L→RPv r K L s1 us→Calls Φ 63 #[.agg us.toArray,.agg (Zbu (k:Int) (tv.line:Int) (tv.col:Int)).toArray] y (PTo y r K L (Ud 3 L m (AH.zero (k:Int) (tv.line:Int) (tv.col:Int)) k s1).st (Ud 3 L m (AH.zero (k:Int) (tv.line:Int) (tv.col:Int)) k s1).ds):=fun y us h1 h2=>ih m (by omega) y r K L s1 us k _ _ h1 h2 (by omega) hle15 (by omega) (by have:=HN.out;omega)
     have hrk:=rem_act L 3 m (AH.zero (k:Int) (tv.line:Int) (tv.col:Int)) k s1;generalize Ud 3 L m (AH.zero (k:Int) (tv.line:Int) (tv.col:Int)) k s1=x at *;have HLn:=Hh (show x.ds.len=53 from AH.dsr_len _ _ _ _ _);have q0:((k:Int) == 0)=false:=by rw[beq_eq_false_iff_ne];omega
     have HS:=Hh hst;have HM:=Hh (show acc.len≤68719476736∧8*Zx L x.st+8≤m∧m≤n∧(acc.len+1)+Zx L x.st≤Zx L st∧Zx L x.st<Zx L (.ok a d) by have:=HN.out;omega);clear hst hsp hfn hfr hm hmn hacc hle15 hrk hk0;go_wp2_with(first
 |((with_reducible refine Zd 15 ?_);refine Xn 49 _ 51 g0 0 ([]) ([Λ (some ⟨r,0,none⟩) nn K,I J (a:Int),I J (d:Int)]) ([I J 0,I J 0,I J 0]) (T20.out.get 0 rfl) rfl Zbh Wl rfl rfl rfl ?_)
 |(go_at_call 17;refine(hhe _ (HR.out.below T20.out.below)).mono ?_;rintro e w21 ⟨rfl,b21⟩
   have T21:=Hh (T20.out.call b21);clear b21)
 |((with_reducible refine Zd 5 ?_);refine Zb T21.out 54 _ rfl rfl Zle ?_;intro w22 g2 t22
   have T22:=Hh (t22);clear t22)
 |((with_reducible refine Zg 5 16 ?_);refine Za 54 _ _ 54 g2 _ ([I J tv.k,Ψ tv.t,I J tv.n,I J (tv.line:Int),I J (tv.col:Int)]) (T22.out.get 2 rfl) rfl Zdb (by simp[Γ]) rfl rfl rfl rfl rfl ?_
   intro w23 p23;have T23:=Hh (T22.out.put 2 rfl p23);clear p23)
 |((with_reducible refine Zd 18 ?_);refine Zc 51 _ 51 g0 _ (T23.out.get 0 rfl) Zm Yc rfl rfl rfl ?_)
 |(go_at_call 18;refine(hmy _ _ (ho.below T23.out.below) HP.out).mono ?_;rintro e w24 ⟨v1,rfl,h1,b24⟩
   have T24:=Hh (T23.out.call b24);clear b24)
 |((with_reducible refine Zd 6 ?_);refine Zb T24.out 51 _ rfl rfl z_P ?_;intro w25 g3 t25
   have T25:=Hh (t25);clear t25)
 |((with_reducible refine Zg 6 21 ?_);refine Za 51 _ _ 51 g3 _ (v1) (T25.out.get 3 rfl) h1.len (Ze h1.len) h1.one rfl rfl rfl rfl rfl ?_
   intro w26 p26;have T26:=Hh (T25.out.put 3 rfl p26);have hli:=T26.out.cell 2 3 rfl rfl;have hco:=T26.out.cell 2 4 rfl rfl;clear p26)
 |((with_reducible refine Zd 28 ?_);refine Zc 51 _ 51 g3 _ (T26.out.get 3 rfl) Zm (Ze h1.len) rfl rfl rfl ?_)
 |(go_at_call 63;refine(hac _ v1 (ho.below T26.out.below) h1).mono ?_;rintro e w27 ⟨v2,u2,rfl,h2,d2,b27⟩
   have l2:=(d2.len.trans HLn.out)
   have o2:=Hh d2.one;have T27:=Hh (T26.out.tree b27 d2);clear d2;clear b27)
 |((with_reducible refine Zd 8 ?_);refine Zb T27.out 51 _ rfl rfl z_P ?_;intro w28 g4 t28
   have T28:=Hh (t28);clear t28)
 |((with_reducible refine Zd 9 ?_);refine Zb T28.out 85 _ rfl rfl Zeg ?_;intro w29 g5 t29
   have T29:=Hh (t29);clear t29)
 |((with_reducible refine Zg 8 36 ?_);refine Za 51 _ _ 51 g4 _ (v2) (T29.out.get 4 rfl) h2.len (Ze h2.len) h2.one rfl rfl rfl rfl rfl ?_
   intro w30 p30;have T30:=Hh (T29.out.put 4 rfl p30);clear p30)
 |((with_reducible refine Zg 9 37 ?_);refine Za 85 _ _ 85 g5 _ (u2) (T30.out.get 5 rfl) l2 (Yn l2) o2.out rfl rfl rfl rfl rfl ?_
   intro w31 p31;have T31:=Hh (T30.out.put 5 rfl p31);clear p31)
 |((with_reducible refine Zd 39 ?_);refine Zc 85 _ 85 g5 _ (T31.out.get 5 rfl) Xk (Yn l2) rfl rfl rfl ?_)
 |((with_reducible refine Zd 40 ?_);refine Uz 39 85 _ 40 53 576 zact u2 Zly l2 (by decide) (by decide) Zlh rfl rfl rfl rfl ?_)
 |(at_builtin;refine Wf (.tmp 38) (.tmp 40) 39 85 53 576 zact Zlh Zly rfl (by decide) (by decide) w.heap.size (Λ A acc.len cp) acc.len xs u2 ((T31.out.call (Zh w31 (.cells u2.toArray 85))).row _ (List.mem_singleton.2 rfl)) w31.heap.size (Zi.made _ _ _) l2 o2.out (by have:=HM.out;omega) (T31.out.call (Zh w31 (.cells u2.toArray 85))).below.size rfl rfl rfl rfl ?_
   intro v9 w32 o9 g9 at9;have T32:=Hh ((T31.out.call (Zh w31 (.cells u2.toArray 85))).push o9 g9 at9);clear o9 g9 at9)
 |((with_reducible refine Zd 42 ?_);refine Zc 51 _ 51 g4 _ (T32.out.get 4 rfl) Zm (Ze h2.len) rfl rfl rfl ?_)
 |((with_reducible refine Zg 1 42 ?_);refine Za 51 _ _ 51 g0 _ (v2) (T32.out.get 0 rfl) h2.len (Ze h2.len) h2.one rfl rfl rfl rfl rfl ?_
   intro w33 p33;have T33:Hid (Env w [(g0,51,v2),(g1,51,[Λ none 0 0,I J 0,I J 0,I J 0,I J 0,I J 0]),(g2,54,[I J tv.k,Ψ tv.t,I J tv.n,I J (tv.line:Int),I J (tv.col:Int)]),(g3,51,v1),(g4,51,v2),(g5,85,u2)] [⟨v9,85,53,acc.len+1,xs++u2⟩] [(acc.ds,xs),(x.ds,u2)] w33):=Hh (T32.out.put 0 rfl p33)
   clear p33))
     (try go_simp)
     go_roundw
     case rel=>
      have hl:(acc.app (.cons x.h x.thn x.els .nil)).len=acc.len+1:=by rw[Acs.len_app];rfl
      have hd:(acc.app (.cons x.h x.thn x.els .nil)).ds=acc.ds.app x.ds:=by rw[Acs.ds_app];show acc.ds.app (x.ds.app .nil)=_;rw[Ds.app_nil]
      first
      |refine⟨m,acc.app (.cons x.h x.thn x.els .nil),xs++u2,x.st,v2,?_,h2,?_,?_,?_,?_,?_⟩
      |(repeat apply Exists.intro;refine⟨⟨m,acc.app (.cons x.h x.thn x.els .nil),xs++u2,x.st,v2,?_,h2,?_,?_,?_,?_,?_⟩,rfl⟩)
      ·rw[hl,hd]
       exact T33.out.join (bs:=[(g0,51,v2),(g1,51,[Λ none 0 0,I J 0,I J 0,I J 0,I J 0,I J 0])]) 0 1 rfl rfl
      ·have:=HM.out;omega
      ·have:=HM.out;omega
      ·rw[hl];have:=HM.out;omega
      ·rw[HE.out,HS.out];dsimp only;rw[Acs.app_assoc];rfl
      ·rw[hl,(T33.out.row _ (List.mem_singleton.2 rfl)).1]
     case measure=>
      have h6:=Jg h2 (T33.out.get 0 rfl);have h7:=HB.out;have:=HM.out;rw[h6,h7];omega
theorem qacts_all:∀ n m:Nat,m≤n→QActsOK m∧Zha m∧QActOK m:=by
 intro n;induction n with
 |zero=>
  intro m hm;obtain rfl:m=0:=by omega
  exact⟨fun w r K L st vs _ _ hn _=>absurd hn (by omega),fun w r K L st vs _ _ hn _=>absurd hn (by omega),fun w r K L st vs k l c _ _ _ _ hn _=>absurd hn (by omega)⟩
 |succ n ih=>
  intro m hm;by_cases e:m≤n
  ·exact ih m e
  ·obtain rfl:m=n+1:=by omega
   exact⟨qacts _ fun k hk=>(ih k (by omega)).2.2,qblock n (ih n (Θ _)).1,qact n (ih n (Θ _)).2.1⟩
theorem qActs(w:World)(r K:Nat)(L:List TokV)(st:St)(vs:List Value)(n:Nat)(ho:Zu w r K L)(hp:RPv r K L st vs)(hn:8*Zx L st+8≤n)(hLn:Zx L st≤68719476736) :
 Calls Φ 45 #[.agg vs.toArray] w (PRo w r K L (Xm 3 L n st).2 (Xm 3 L n st).1.len (Xm 3 L n st).1.ds):=(qacts_all n n (Θ _)).1 w r K L st vs ho hp hn hLn
theorem Env.joinF{w x:World}{bs cs:List Bk}{rs:List Rw}{ts:List (Ds×List Value)}(h:Env w (bs++cs) rs ts x)(i j:Nat){d1 d2 d3:Ds}{l u v:List Value}(hi:ts[i]?=some (d1,l))(hj:ts[j]?=some (d2,u))
  (f:Zs (Zld w bs rs) x d2 u→Zs (Zld w bs rs) x d3 v):Env w bs rs [(d1.app d3,l++v)] x:=by
 have h':=h.less (bs:=bs) (cs:=cs) (ts:=[]) (us:=ts);exact h'.addT (Zs.app (f ((h.deep _ (List.mem_of_getElem? hj)).mono fun k _ hn=>Zff hn)) ((h.deep _ (List.mem_of_getElem? hi)).mono fun k _ hn=>Zff hn))
theorem qrules(n:Nat)(w:World)(r K:Nat)(L:List TokV)(st:St)(vs:List Value)(ho:Zu w r K L)(hp:RPv r K L st vs)(hn:8*Zx L st+9≤n)(hLn:Zx L st≤68719476736) :
  Calls Φ 23 #[.agg vs.toArray] w (PRo w r K L (Wi 3 L n st).2 (Wi 3 L n st).1.length (Un (Wi 3 L n st).1)):=by
 have T0:=Hh (Env.start w);have HN:=Hh (ζ hn hLn);clear hn hLn;go_enter Tryz.func23,Tryz.ntmps23;go_wp2_with(first
 |((with_reducible refine Zd 1 ?_);refine Zf T0.out 51 _ (vs) rfl rfl rfl ?_;intro w1 g0 t1
   have T1:=Hh (t1);clear t1)
 |((with_reducible refine Zd 2 ?_);refine Zb T1.out 51 _ rfl rfl z_P ?_;intro w2 g1 t2
   have T2:Hid (Env w [(g0,51,vs),(g1,51,[Λ none 0 0,I J 0,I J 0,I J 0,I J 0,I J 0])] [] [] w2):=Hh (t2);clear t2))
 go_loopw [4] (fun v wr=>∃(m:Nat)(acc:List Ru)(xs:List Value)(s:St)(us:List Value),Env w [(g0,51,us),(g1,51,[Λ none 0 0,I J 0,I J 0,I J 0,I J 0,I J 0])] [⟨v,41,5,acc.length,xs⟩] [(Un acc,xs)] wr∧RPv r K L s us∧8*Zx L s+9≤m∧m≤n∧acc.length+Zx L s≤Zx L st∧Wi 3 L n st=(acc++(Wi 3 L m s).1,(Wi 3 L m s).2)∧xs.length=acc.length*5) (fun _ wr=>remB g0 L.length wr)
 case atStart=>exact⟨n,[],[],st,vs,T2.out.row0 41 5,hp,HN.out.1,Θ _,by simp,by simp,rfl⟩
 case round=>
  obtain⟨m,acc,xs,s,us,hT,hs,hm,hmn,hacc,heq,_⟩:=hrel;obtain⟨m,rfl⟩:∃ m',m=m'+1:=⟨m - 1,by omega⟩
  obtain⟨A,cp,rfl,_,_,_⟩:=Yx (show World.ownsRow _ w.heap.size 41 5 _ acc.length xs from hT.row _ (List.mem_singleton.2 rfl));have hrem:=Jg hs (hT.get 0 rfl);clear hp;cases s with
  |bad F=>
    have HP:=Hh hs;obtain⟨SA,nb,kb,a,d,rfl,hd,hF⟩:=hs.bad;obtain⟨f0,f1,f2⟩:=F;have z0:(f0 == 0)=false:=by rw[beq_eq_false_iff_ne];exact hF
    obtain⟨c0,c1,c2,c3,c4,c5⟩:=Xu (hT.get 0 rfl);have T20:=Hh hT;have HE:=Hh heq;clear hT hs hm hmn hacc heq hrem hF;go_wp2_with(first
 |((with_reducible refine Zd 53 ?_);refine Zc 51 _ 51 g0 _ (T20.out.get 0 rfl) Zm Yc rfl rfl rfl ?_)
 |((with_reducible refine Zg 2 53 ?_);refine Za 51 _ _ 51 g1 _ ([Λ SA nb kb,I J (a:Int),I J (d:Int),I J f0,I J (f1:Int),I J (f2:Int)]) (T20.out.get 1 rfl) rfl Yc (by simp[Γ]) rfl rfl rfl rfl rfl ?_
   intro w21 p21;have T21:Hid (Env w [(g0,51,[Λ SA nb kb,I J (a:Int),I J (d:Int),I J f0,I J (f1:Int),I J (f2:Int)]),(g1,51,[Λ SA nb kb,I J (a:Int),I J (d:Int),I J f0,I J (f1:Int),I J (f2:Int)])] [⟨Λ A acc.length cp,41,5,acc.length,xs⟩] [(Un acc,xs)] w21):=Hh (T20.out.put 1 rfl p21)
   clear p21))
    refine Xd 2 51 3 51 _ _ _ rfl (T21.out.get 1 rfl) Zm (Ze HP.out.len) rfl rfl rfl ?_;rw[HE.out,Zko 3 L m _ rfl];dsimp only;rw[List.append_nil];exact⟨_,_,rfl,HP.out,Zs.rowOf (T21.out.row _ (List.mem_singleton.2 rfl)) (fun k hk=>hk) (T21.out.leaf 0 rfl),T21.out.below⟩
  |ok a d=>
    have HP:=Hh hs;obtain⟨nn,hnn,rfl,ha,hd⟩:=hs.ok;have hrow:=ho (by omega);have HR:=Hh hrow;have HNN:=Hh (ζ hnn ha);obtain⟨c0,c1,c2,c3,c4,c5⟩:=Xu (hT.get 0 rfl);have hfr:=Vt (L:=L) (ws:=Xf) (st:=.ok a d);have hfn:=Uh L (ws:=Xf) (st:=.ok a d);have hst:=rules_step 3 L m (.ok a d);have hsp:=Zko 3 L m (.ok a d);have hhe:∀ x,Uw x r K L→Calls Φ 17 #[.agg #[Λ (some ⟨r,0,none⟩) nn K,I J (a:Int),I J (d:Int)],I J 0] x (fun e w'=>e=η (Wz (Yb L a))∧Below x.heap.size x w'):=fun x h=>Zkc x r K L nn a d HNN.out.1 h HNN.out.2
    have hmy:∀(x:World)(us:List Value),Zu x r K L→RPv r K L (.ok a d) us→Calls Φ 18 #[.agg us.toArray,Λ (some ⟨x.heap.size,0,none⟩) 6 6] (x.alloc (.cells #[Ψ ⟨#[114,101,118,101,97,108]⟩,Ψ ⟨#[100,101,97,116,104]⟩,Ψ ⟨#[109,111,118,101,100]⟩,Ψ ⟨#[101,110,100]⟩,Ψ ⟨#[97,108,119,97,121,115]⟩,Ψ ⟨#[101,110,116,101,114]⟩] 9)) (PVo x r K L (Ye L Xf (.ok a d)) (I J (Zk L Xf (.ok a d)))):=fun x us h1 h2=>Zlr x r K _ L (.ok a d) us Xf 6 6 _ rfl rfl h1 h2 rfl (by decide)
    have htk:St.tok L (.ok a d)=Yb L a:=rfl;rw[htk]at hst;clear htk hs hrow hnn;generalize Yb L a=tv at *;generalize Zk L Xf (.ok a d)=k at *;generalize Ye L Xf (.ok a d)=s1 at *;have T20:=Hh hT;have HE:=Hh heq;have HB:=Hh hrem;unfold Wz at hhe;clear hT heq hrem;by_cases hk0:k=0
    ·have HS:=Hh (ζ (hsp hk0) (hfn hk0))
     subst hk0;rw[show((0:Nat):Int)=0 from rfl]at hmy;clear hst hsp hfn hfr hm hmn hacc;go_wp2_with(first
 |((with_reducible refine Zd 14 ?_);refine Xn 49 _ 51 g0 0 ([]) ([Λ (some ⟨r,0,none⟩) nn K,I J (a:Int),I J (d:Int)]) ([I J 0,I J 0,I J 0]) (T20.out.get 0 rfl) rfl Zbh Wl rfl rfl rfl ?_)
 |(go_at_call 17;refine(hhe _ (HR.out.below T20.out.below)).mono ?_;rintro e w21 ⟨rfl,b21⟩
   have T21:=Hh (T20.out.call b21);clear b21)
 |((with_reducible refine Zd 5 ?_);refine Zb T21.out 54 _ rfl rfl Zle ?_;intro w22 g2 t22
   have T22:=Hh (t22);clear t22)
 |((with_reducible refine Zg 5 15 ?_);refine Za 54 _ _ 54 g2 _ ([I J tv.k,Ψ tv.t,I J tv.n,I J (tv.line:Int),I J (tv.col:Int)]) (T22.out.get 2 rfl) rfl Zdb (by simp[Γ]) rfl rfl rfl rfl rfl ?_
   intro w23 p23;have T23:=Hh (T22.out.put 2 rfl p23);clear p23)
 |((with_reducible refine Zd 17 ?_);refine Zc 51 _ 51 g0 _ (T23.out.get 0 rfl) Zm Yc rfl rfl rfl ?_)
 |(go_at_call 18;refine(hmy _ _ (ho.below T23.out.below) HP.out).mono ?_;rintro e w24 ⟨v1,rfl,h1,b24⟩
   have T24:=Hh (T23.out.call b24);clear b24)
 |((with_reducible refine Zd 6 ?_);refine Zb T24.out 51 _ rfl rfl z_P ?_;intro w25 g3 t25
   have T25:=Hh (t25);clear t25)
 |((with_reducible refine Zg 6 20 ?_);refine Za 51 _ _ 51 g3 _ (v1) (T25.out.get 3 rfl) h1.len (Ze h1.len) h1.one rfl rfl rfl rfl rfl ?_
   intro w26 p26;have T26:=Hh (T25.out.put 3 rfl p26);have hli:=T26.out.cell 2 3 rfl rfl;have hco:=T26.out.cell 2 4 rfl rfl;clear p26)
 |((with_reducible refine Zd 24 ?_);refine Zc 51 _ 51 g3 _ (T26.out.get 3 rfl) Zm (Ze h1.len) rfl rfl rfl ?_)
 |((with_reducible refine Zg 2 24 ?_);refine Za 51 _ _ 51 g1 _ (v1) (T26.out.get 1 rfl) h1.len (Ze h1.len) h1.one rfl rfl rfl rfl rfl ?_
   intro w27 p27;have T27:Hid (Env w [(g0,51,[Λ (some ⟨r,0,none⟩) nn K,I J (a:Int),I J (d:Int),I J 0,I J 0,I J 0]),(g1,51,v1),(g2,54,[I J tv.k,Ψ tv.t,I J tv.n,I J (tv.line:Int),I J (tv.col:Int)]),(g3,51,v1)] [⟨Λ A acc.length cp,41,5,acc.length,xs⟩] [(Un acc,xs)] w27):=Hh (T26.out.put 1 rfl p27)
   clear p27))
     have hs:=HS.out.2;subst hs;refine Xd 2 51 3 51 _ _ _ rfl (T27.out.get 1 rfl) Zm (Ze h1.len) rfl rfl rfl ?_;rw[HE.out,HS.out.1];dsimp only;rw[List.append_nil];exact⟨_,_,rfl,h1,Zs.rowOf (T27.out.row _ (List.mem_singleton.2 rfl)) (fun k hk=>hk) (T27.out.leaf 0 rfl),T27.out.below⟩
    ·have hst:=hst hk0
     have hfr:=hfr hk0;have q0:((k:Int) == 0)=false:=by rw[beq_eq_false_iff_ne];omega
     have hrs:=Zok L k s1;have hrw:=Xx L Yu (Zbc L k s1);have hj1:∀(x:World)(us:List Value),Zu x r K L→RPv r K L (Zbc L k s1) us→Calls Φ 21 #[.agg us.toArray,Ψ ⟨#[123]⟩] x (PPo x r K L (Zz L Yu (Zbc L k s1))):=fun x us h1 h2=>Jh x r K L _ us Yu h1 h2
     have hac:∀(x:World)(us:List Value),Zu x r K L→RPv r K L (Zz L Yu (Zbc L k s1)) us→Calls Φ 45 #[.agg us.toArray] x (PRo x r K L (Xm 3 L m (Zz L Yu (Zbc L k s1))).2 (Xm 3 L m (Zz L Yu (Zbc L k s1))).1.len (Xm 3 L m (Zz L Yu (Zbc L k s1))).1.ds):=fun x us h1 h2=>qActs x r K L _ us m h1 h2 (by omega) (by have:=HN.out;omega)
     have hra:=Zlo L 3 m (Zz L Yu (Zbc L k s1));generalize Xm 3 L m (Zz L Yu (Zbc L k s1))=ac at *;generalize Zz L Yu (Zbc L k s1)=s3 at *;have hj2:∀(x:World)(us:List Value),Zu x r K L→RPv r K L ac.2 us→Calls Φ 21 #[.agg us.toArray,Ψ ⟨#[125]⟩] x (PPo x r K L (Zz L Xl ac.2)):=fun x us h1 h2=>Jh x r K L _ us Xl h1 h2
     have hru:=Xx L Xl ac.2;generalize Zz L Xl ac.2=s5 at *;have HS:=Hh hst;have HM:=Hh (show acc.length≤68719476736∧8*Zx L s5+9≤m∧m≤n∧(acc.length+1)+Zx L s5≤Zx L st∧Zx L s5<Zx L (.ok a d) by have:=HN.out;omega);clear hst hsp hfn hfr hm hmn hacc hrs hrw hra hru hk0;by_cases h5:k=5
     ·subst h5
      have hnu:∀(x:World)(us:List Value),Zu x r K L→RPv r K L s1 us→Calls Φ 20 #[.agg us.toArray] x (PVo x r K L (Zbc L 5 s1) (I J (strN L 5 s1))):=fun x us h1 h2=>Zom x r K L s1 us h1 h2
      generalize strN L 5 s1=sn at *;rw[show((5:Nat):Int)=5 from rfl]at hmy;go_wp2_with(first
 |((with_reducible refine Zd 14 ?_);refine Xn 49 _ 51 g0 0 ([]) ([Λ (some ⟨r,0,none⟩) nn K,I J (a:Int),I J (d:Int)]) ([I J 0,I J 0,I J 0]) (T20.out.get 0 rfl) rfl Zbh Wl rfl rfl rfl ?_)
 |(go_at_call 17;refine(hhe _ (HR.out.below T20.out.below)).mono ?_;rintro e w21 ⟨rfl,b21⟩
   have T21:=Hh (T20.out.call b21);clear b21)
 |((with_reducible refine Zd 5 ?_);refine Zb T21.out 54 _ rfl rfl Zle ?_;intro w22 g2 t22
   have T22:=Hh (t22);clear t22)
 |((with_reducible refine Zg 5 15 ?_);refine Za 54 _ _ 54 g2 _ ([I J tv.k,Ψ tv.t,I J tv.n,I J (tv.line:Int),I J (tv.col:Int)]) (T22.out.get 2 rfl) rfl Zdb (by simp[Γ]) rfl rfl rfl rfl rfl ?_
   intro w23 p23;have T23:=Hh (T22.out.put 2 rfl p23);clear p23)
 |((with_reducible refine Zd 17 ?_);refine Zc 51 _ 51 g0 _ (T23.out.get 0 rfl) Zm Yc rfl rfl rfl ?_)
 |(go_at_call 18;refine(hmy _ _ (ho.below T23.out.below) HP.out).mono ?_;rintro e w24 ⟨v1,rfl,h1,b24⟩
   have T24:=Hh (T23.out.call b24);clear b24)
 |((with_reducible refine Zd 6 ?_);refine Zb T24.out 51 _ rfl rfl z_P ?_;intro w25 g3 t25
   have T25:=Hh (t25);clear t25)
 |((with_reducible refine Zg 6 20 ?_);refine Za 51 _ _ 51 g3 _ (v1) (T25.out.get 3 rfl) h1.len (Ze h1.len) h1.one rfl rfl rfl rfl rfl ?_
   intro w26 p26;have T26:=Hh (T25.out.put 3 rfl p26);have hli:=T26.out.cell 2 3 rfl rfl;have hco:=T26.out.cell 2 4 rfl rfl;clear p26)
 |((with_reducible refine Zd 8 ?_);refine Zb T26.out 41 _ rfl rfl z_ru ?_;intro w27 g4 t27
   have T27:=Hh (t27);clear t27)
 |((with_reducible refine Zg 8 31 ?_);refine Za 41 _ _ 41 g4 _ ([I J 5,I J 0,I J (tv.line:Int),I J (tv.col:Int),Λ none 0 0]) (T27.out.get 4 rfl) rfl Zlj (by simp[Γ]) rfl rfl rfl rfl rfl ?_
   intro w28 p28;have T28:=Hh (T27.out.put 4 rfl p28);clear p28)
 |((with_reducible refine Zd 35 ?_);refine Zc 51 _ 51 g3 _ (T28.out.get 3 rfl) Zm (Ze h1.len) rfl rfl rfl ?_)
 |(go_at_call 20;refine(hnu _ v1 (ho.below T28.out.below) h1).mono ?_;rintro e w29 ⟨v2,rfl,h2,b29⟩
   have T29:=Hh (T28.out.call b29);clear b29)
 |((with_reducible refine Zg 6 37 ?_);refine Za 51 _ _ 51 g3 _ (v2) (T29.out.get 3 rfl) (h2.len.trans h1.len.symm) (Ze h2.len) h2.one rfl rfl rfl rfl rfl ?_
   intro w30 p30;have T30:=Hh (T29.out.put 3 rfl p30);clear p30)
 |((with_reducible refine Zg 39 38 ?_);refine Zp 3 _ _ 41 g4 1 [I J 5] (I J 0) (I J sn) [I J (tv.line:Int),I J (tv.col:Int),Λ none 0 0] (T30.out.get 4 rfl) rfl Yw rfl rfl rfl rfl rfl rfl ?_
   intro w31 p31;have T31:=Hh (T30.out.put 4 rfl p31);clear p31)
 |((with_reducible refine Zd 41 ?_);refine Zc 51 _ 51 g3 _ (T31.out.get 3 rfl) Zm (Ze h2.len) rfl rfl rfl ?_)
 |(go_at_call 21;(with_reducible refine(hj1 _ v2 (ho.below T31.out.below) h2).mono ?_);rintro e w32 ⟨v3,rfl,h3,b32⟩
   have T32:=Hh (T31.out.call b32);clear b32)
 |(go_at_call 45;refine(hac _ v3 (ho.below T32.out.below) h3).mono ?_;rintro e w33 ⟨v4,f4,rfl,h4,d4,b33⟩
   obtain⟨A5,c5,rfl⟩:=d4.slice;have T33:=Hh (T32.out.tree b33 d4);clear d4;clear b33)
 |((with_reducible refine Zg 6 44 ?_);refine Za 51 _ _ 51 g3 _ (v4) (T33.out.get 3 rfl) (h4.len.trans h2.len.symm) (Ze h4.len) h4.one rfl rfl rfl rfl rfl ?_
   intro w34 p34;have T34:=Hh (T33.out.put 3 rfl p34);clear p34)
 |((with_reducible refine Zg 46 45 ?_);refine Zp 39 _ _ 41 g4 4 [I J 5,I J sn,I J (tv.line:Int),I J (tv.col:Int)] (Λ none 0 0) (Λ A5 ac.1.len c5) [] (T34.out.get 4 rfl) rfl Zdu rfl rfl rfl rfl rfl rfl ?_
   intro w35 p35;have T35:=Hh (T34.out.put 4 rfl p35);clear p35)
 |((with_reducible refine Zd 47 ?_);refine Zc 51 _ 51 g3 _ (T35.out.get 3 rfl) Zm (Ze h4.len) rfl rfl rfl ?_)
 |(go_at_call 21;(with_reducible refine(hj2 _ v4 (ho.below T35.out.below) h4).mono ?_);rintro e w36 ⟨v6,rfl,h6,b36⟩
   have T36:=Hh (T35.out.call b36);clear b36)
 |((with_reducible refine Zg 1 48 ?_);refine Za 51 _ _ 51 g0 _ (v6) (T36.out.get 0 rfl) h6.len (Ze h6.len) h6.one rfl rfl rfl rfl rfl ?_
   intro w37 p37;have T37:=Hh (T36.out.put 0 rfl p37);clear p37)
 |((with_reducible refine Zd 50 ?_);refine Zc 41 _ 41 g4 _ (T37.out.get 4 rfl) row_ru Zlj rfl rfl rfl ?_)
 |((with_reducible refine Zd 51 ?_);refine Uz 34 41 _ 51 5 56 _ [I J 5,I J sn,I J (tv.line:Int),I J (tv.col:Int),Λ A5 ac.1.len c5] Zlx rfl (by decide) (by decide) Zlg rfl rfl rfl rfl ?_)
 |(at_builtin;refine Wf (.tmp 49) (.tmp 51) 34 41 5 56 _ Zlg Zlx rfl (by decide) (by decide) w.heap.size (Λ A acc.length cp) acc.length xs [I J 5,I J sn,I J (tv.line:Int),I J (tv.col:Int),Λ A5 ac.1.len c5] ((T37.out.call (Zh w37 (.cells ([I J 5,I J sn,I J (tv.line:Int),I J (tv.col:Int),Λ A5 ac.1.len c5]:List Value).toArray 41))).row _ (List.mem_singleton.2 rfl)) w37.heap.size (Zi.made _ _ _) rfl (by simp[Γ]) (by have:=HM.out;omega) (T37.out.call (Zh w37 (.cells ([I J 5,I J sn,I J (tv.line:Int),I J (tv.col:Int),Λ A5 ac.1.len c5]:List Value).toArray 41))).below.size rfl rfl rfl rfl ?_
   intro v9 w38 o9 g9 at9;have T38:Hid (Env w [(g0,51,v6),(g1,51,[Λ none 0 0,I J 0,I J 0,I J 0,I J 0,I J 0]),(g2,54,[I J tv.k,Ψ tv.t,I J tv.n,I J (tv.line:Int),I J (tv.col:Int)]),(g3,51,v4),(g4,41,[I J 5,I J sn,I J (tv.line:Int),I J (tv.col:Int),Λ A5 ac.1.len c5])] [⟨v9,41,5,acc.length+1,xs++[I J 5,I J sn,I J (tv.line:Int),I J (tv.col:Int),Λ A5 ac.1.len c5]⟩] [(Un acc,xs),(.row ac.1.len ac.1.ds .nil,[Λ A5 ac.1.len c5])] w38):=Hh ((T37.out.call (Zh w37 (.cells ([I J 5,I J sn,I J (tv.line:Int),I J (tv.col:Int),Λ A5 ac.1.len c5]:List Value).toArray 41))).push o9 g9 at9)
   clear o9 g9 at9))
      (try go_simp)
      go_roundw
      case rel=>
       first
       |refine⟨m,acc++[⟨5,sn,(tv.line:Int),(tv.col:Int),ac.1⟩],xs++[I J 5,I J sn,I J (tv.line:Int),I J (tv.col:Int),Λ A5 ac.1.len c5],s5,v6,?_,h6,?_,?_,?_,?_,?_⟩
       |(repeat apply Exists.intro;refine⟨⟨m,acc++[⟨5,sn,(tv.line:Int),(tv.col:Int),ac.1⟩],xs++[I J 5,I J sn,I J (tv.line:Int),I J (tv.col:Int),Λ A5 ac.1.len c5],s5,v6,?_,h6,?_,?_,?_,?_,?_⟩,rfl⟩)
       ·rw[List.length_append,Zhg]
        exact T38.out.joinF (bs:=[(g0,51,v6),(g1,51,[Λ none 0 0,I J 0,I J 0,I J 0,I J 0,I J 0])]) 0 1 rfl rfl fun hD=>⟨_,rfl,_,rfl,_,rfl,_,rfl,hD⟩
       ·have:=HM.out;omega
       ·have:=HM.out;omega
       ·rw[List.length_append];simp only[List.length_cons,List.length_nil];have:=HM.out;omega
       ·rw[HE.out,HS.out];simp
       ·exact(T38.out.row _ (List.mem_singleton.2 rfl)).1.trans (by simp)
      case measure=>
       have h7:=Jg h6 (T38.out.get 0 rfl);have h8:=HB.out;have:=HM.out;rw[h7,h8];omega
     ·have e5:((k:Int) == 5)=false:=by rw[beq_eq_false_iff_ne];omega
      have e6:Zbc L k s1=s1:=if_neg h5;have e7:strN L k s1=0:=if_neg h5;rw[e6]at hj1;rw[e7]at HS;clear e6 e7 h5;go_wp2_with(first
 |((with_reducible refine Zd 14 ?_);refine Xn 49 _ 51 g0 0 ([]) ([Λ (some ⟨r,0,none⟩) nn K,I J (a:Int),I J (d:Int)]) ([I J 0,I J 0,I J 0]) (T20.out.get 0 rfl) rfl Zbh Wl rfl rfl rfl ?_)
 |(go_at_call 17;refine(hhe _ (HR.out.below T20.out.below)).mono ?_;rintro e w21 ⟨rfl,b21⟩
   have T21:=Hh (T20.out.call b21);clear b21)
 |((with_reducible refine Zd 5 ?_);refine Zb T21.out 54 _ rfl rfl Zle ?_;intro w22 g2 t22
   have T22:=Hh (t22);clear t22)
 |((with_reducible refine Zg 5 15 ?_);refine Za 54 _ _ 54 g2 _ ([I J tv.k,Ψ tv.t,I J tv.n,I J (tv.line:Int),I J (tv.col:Int)]) (T22.out.get 2 rfl) rfl Zdb (by simp[Γ]) rfl rfl rfl rfl rfl ?_
   intro w23 p23;have T23:=Hh (T22.out.put 2 rfl p23);clear p23)
 |((with_reducible refine Zd 17 ?_);refine Zc 51 _ 51 g0 _ (T23.out.get 0 rfl) Zm Yc rfl rfl rfl ?_)
 |(go_at_call 18;refine(hmy _ _ (ho.below T23.out.below) HP.out).mono ?_;rintro e w24 ⟨v1,rfl,h1,b24⟩
   have T24:=Hh (T23.out.call b24);clear b24)
 |((with_reducible refine Zd 6 ?_);refine Zb T24.out 51 _ rfl rfl z_P ?_;intro w25 g3 t25
   have T25:=Hh (t25);clear t25)
 |((with_reducible refine Zg 6 20 ?_);refine Za 51 _ _ 51 g3 _ (v1) (T25.out.get 3 rfl) h1.len (Ze h1.len) h1.one rfl rfl rfl rfl rfl ?_
   intro w26 p26;have T26:=Hh (T25.out.put 3 rfl p26);have hli:=T26.out.cell 2 3 rfl rfl;have hco:=T26.out.cell 2 4 rfl rfl;clear p26)
 |((with_reducible refine Zd 8 ?_);refine Zb T26.out 41 _ rfl rfl z_ru ?_;intro w27 g4 t27
   have T27:=Hh (t27);clear t27)
 |((with_reducible refine Zg 8 31 ?_);refine Za 41 _ _ 41 g4 _ ([I J (k:Int),I J 0,I J (tv.line:Int),I J (tv.col:Int),Λ none 0 0]) (T27.out.get 4 rfl) rfl Zlj (by simp[Γ]) rfl rfl rfl rfl rfl ?_
   intro w28 p28;have T28:=Hh (T27.out.put 4 rfl p28);clear p28)
 |((with_reducible refine Zd 41 ?_);refine Zc 51 _ 51 g3 _ (T28.out.get 3 rfl) Zm (Ze h1.len) rfl rfl rfl ?_)
 |(go_at_call 21;(with_reducible refine(hj1 _ v1 (ho.below T28.out.below) h1).mono ?_);rintro e w29 ⟨v3,rfl,h3,b29⟩
   have T29:=Hh (T28.out.call b29);clear b29)
 |(go_at_call 45;refine(hac _ v3 (ho.below T29.out.below) h3).mono ?_;rintro e w30 ⟨v4,f4,rfl,h4,d4,b30⟩
   obtain⟨A5,c5,rfl⟩:=d4.slice;have T30:=Hh (T29.out.tree b30 d4);clear d4;clear b30)
 |((with_reducible refine Zg 6 44 ?_);refine Za 51 _ _ 51 g3 _ (v4) (T30.out.get 3 rfl) (h4.len.trans h1.len.symm) (Ze h4.len) h4.one rfl rfl rfl rfl rfl ?_
   intro w31 p31;have T31:=Hh (T30.out.put 3 rfl p31);clear p31)
 |((with_reducible refine Zg 46 45 ?_);refine Zp 39 _ _ 41 g4 4 [I J (k:Int),I J 0,I J (tv.line:Int),I J (tv.col:Int)] (Λ none 0 0) (Λ A5 ac.1.len c5) [] (T31.out.get 4 rfl) rfl Zdu rfl rfl rfl rfl rfl rfl ?_
   intro w32 p32;have T32:=Hh (T31.out.put 4 rfl p32);clear p32)
 |((with_reducible refine Zd 47 ?_);refine Zc 51 _ 51 g3 _ (T32.out.get 3 rfl) Zm (Ze h4.len) rfl rfl rfl ?_)
 |(go_at_call 21;(with_reducible refine(hj2 _ v4 (ho.below T32.out.below) h4).mono ?_);rintro e w33 ⟨v6,rfl,h6,b33⟩
   have T33:=Hh (T32.out.call b33);clear b33)
 |((with_reducible refine Zg 1 48 ?_);refine Za 51 _ _ 51 g0 _ (v6) (T33.out.get 0 rfl) h6.len (Ze h6.len) h6.one rfl rfl rfl rfl rfl ?_
   intro w34 p34;have T34:=Hh (T33.out.put 0 rfl p34);clear p34)
 |((with_reducible refine Zd 50 ?_);refine Zc 41 _ 41 g4 _ (T34.out.get 4 rfl) row_ru Zlj rfl rfl rfl ?_)
 |((with_reducible refine Zd 51 ?_);refine Uz 34 41 _ 51 5 56 _ [I J (k:Int),I J 0,I J (tv.line:Int),I J (tv.col:Int),Λ A5 ac.1.len c5] Zlx rfl (by decide) (by decide) Zlg rfl rfl rfl rfl ?_)
 |(at_builtin;refine Wf (.tmp 49) (.tmp 51) 34 41 5 56 _ Zlg Zlx rfl (by decide) (by decide) w.heap.size (Λ A acc.length cp) acc.length xs [I J (k:Int),I J 0,I J (tv.line:Int),I J (tv.col:Int),Λ A5 ac.1.len c5] ((T34.out.call (Zh w34 (.cells ([I J (k:Int),I J 0,I J (tv.line:Int),I J (tv.col:Int),Λ A5 ac.1.len c5]:List Value).toArray 41))).row _ (List.mem_singleton.2 rfl)) w34.heap.size (Zi.made _ _ _) rfl (by simp[Γ]) (by have:=HM.out;omega) (T34.out.call (Zh w34 (.cells ([I J (k:Int),I J 0,I J (tv.line:Int),I J (tv.col:Int),Λ A5 ac.1.len c5]:List Value).toArray 41))).below.size rfl rfl rfl rfl ?_
   intro v9 w35 o9 g9 at9;have T35:Hid (Env w [(g0,51,v6),(g1,51,[Λ none 0 0,I J 0,I J 0,I J 0,I J 0,I J 0]),(g2,54,[I J tv.k,Ψ tv.t,I J tv.n,I J (tv.line:Int),I J (tv.col:Int)]),(g3,51,v4),(g4,41,[I J (k:Int),I J 0,I J (tv.line:Int),I J (tv.col:Int),Λ A5 ac.1.len c5])] [⟨v9,41,5,acc.length+1,xs++[I J (k:Int),I J 0,I J (tv.line:Int),I J (tv.col:Int),Λ A5 ac.1.len c5]⟩] [(Un acc,xs),(.row ac.1.len ac.1.ds .nil,[Λ A5 ac.1.len c5])] w35):=Hh ((T34.out.call (Zh w34 (.cells ([I J (k:Int),I J 0,I J (tv.line:Int),I J (tv.col:Int),Λ A5 ac.1.len c5]:List Value).toArray 41))).push o9 g9 at9)
   clear o9 g9 at9))
      (try go_simp)
      go_roundw
      case rel=>
       first
       |refine⟨m,acc++[⟨(k:Int),0,(tv.line:Int),(tv.col:Int),ac.1⟩],xs++[I J (k:Int),I J 0,I J (tv.line:Int),I J (tv.col:Int),Λ A5 ac.1.len c5],s5,v6,?_,h6,?_,?_,?_,?_,?_⟩
       |(repeat apply Exists.intro;refine⟨⟨m,acc++[⟨(k:Int),0,(tv.line:Int),(tv.col:Int),ac.1⟩],xs++[I J (k:Int),I J 0,I J (tv.line:Int),I J (tv.col:Int),Λ A5 ac.1.len c5],s5,v6,?_,h6,?_,?_,?_,?_,?_⟩,rfl⟩)
       ·rw[List.length_append,Zhg]
        exact T35.out.joinF (bs:=[(g0,51,v6),(g1,51,[Λ none 0 0,I J 0,I J 0,I J 0,I J 0,I J 0])]) 0 1 rfl rfl fun hD=>⟨_,rfl,_,rfl,_,rfl,_,rfl,hD⟩
       ·have:=HM.out;omega
       ·have:=HM.out;omega
       ·rw[List.length_append];simp only[List.length_cons,List.length_nil];have:=HM.out;omega
       ·rw[HE.out,HS.out];simp
       ·exact(T35.out.row _ (List.mem_singleton.2 rfl)).1.trans (by simp)
      case measure=>
       have h7:=Jg h6 (T35.out.get 0 rfl);have h8:=HB.out;have:=HM.out;rw[h7,h8];omega
def Zcj:List TokV→Ds
 |[]=>.nil
 |v::l=>.int v.k (.str v.t (.int v.n (.int (v.line:Int) (.int (v.col:Int) (Zcj l)))))
theorem toks_deep(N:Nat→Prop)(w:World):∀ L:List TokV,Zs N w (Zcj L) (Jd L)
 |[]=>rfl
 |v::l=>⟨_,rfl,_,rfl,_,rfl,_,rfl,_,rfl,toks_deep N w l⟩
theorem toks_only{N:Nat→Prop}{w:World}:∀{L:List TokV}{xs:List Value},Zs N w (Zcj L) xs→xs=Jd L
 |[],xs,h=>h
 |v::l,xs,⟨t1,e1,t2,e2,t3,e3,t4,e4,t5,e5,h⟩=>by
  have:=toks_only h;subst this e5 e4 e3 e2 e1;rfl
def RowKnown(r K:Nat)(L:List TokV)(A:Option Addr):Prop:=0<L.length→A=some ⟨r,0,none⟩∧Zml L∧L.length≤K∧K≤9223372036854775807
theorem Zu.of{N:Nat→Prop}{w:World}{r K c:Nat}{L:List TokV}{A:Option Addr}(h:Zs N w (.row L.length (Zcj L) .nil) [Λ A L.length c])(hA:RowKnown r K L A):Zu w r K L:=by
 intro hl;obtain⟨A',c',xs,t,e,hn,hW,hD,ht⟩:=h;injection e with e1 e2;injection e1 with e1;obtain⟨rfl,h1,h2,h3⟩:=hA hl;subst e1;obtain rfl:=toks_only hD;rcases hW with h | ⟨g,hg,_,hin,hc⟩
 ·have:=Zjh L
  rw[h]at this;simp at this;omega
 ·injection hg with hg
  injection hg with hg;subst hg;exact⟨hc,hin,h1,h2,h3⟩
def QBegin(w:World)(s:ByteArray)(e:Ending)(w':World):Prop:=
 ∃(vs:List Value)(r K:Nat)(A:Option Addr)(c:Nat),e=η (.agg vs.toArray)∧RPv r K (Wh s) (Je s) vs∧RowKnown r K (Wh s) A∧Zs (fun k=>w.heap.size≤k) w' (.row (Wh s).length (Zcj (Wh s)) .nil) [.slice A (Wh s).length c]∧Below w.heap.size w w'
theorem qbegin(s:ByteArray)(w:World)(hs:s.size≤65536):Calls Φ 16 #[Ψ s] w (QBegin w s):=by
 have hs2:s.size≤1099511627776:=by omega
 have T0:=Hh (Env.start w);rcases Zkl s hs with⟨E,l,c,hv,hE⟩ | ⟨L,hv,hL,_⟩
 ·have hn:=fun x=>qNew_err s x hs2 E l c hv
  have e1:Je s=.bad (E,l,c):=by unfold Je;rw[hv];exact if_neg hE
  have e2:Wh s=[]:=by unfold Wh;rw[hv]
  have HE:=Hh (ζ hE (ζ e1 e2));clear hs hs2 hv hE e1 e2;unfold Zr at hn;go_enter Tryz.func16,Tryz.ntmps16;go_wp2_with(first
 |((with_reducible refine Zd 2 ?_);refine Zb T0.out 51 _ rfl rfl z_P ?_;intro w1 g0 t1
   have T1:=Hh (t1);clear t1)
 |(go_at_call 38;refine(hn _).mono ?_;rintro e w2 ⟨A1,k1,rfl,b2⟩
   have T2:=Hh (T1.out.call b2);clear b2)
 |((with_reducible refine Zd 3 ?_);refine Zb T2.out 49 _ rfl rfl z_C ?_;intro w3 g1 t3
   have T3:=Hh (t3);clear t3)
 |((with_reducible refine Zd 4 ?_);refine Zb T3.out 29 _ rfl rfl z_F ?_;intro w4 g2 t4
   have T4:=Hh (t4);clear t4)
 |((with_reducible refine Zg 3 8 ?_);refine Za 49 _ _ 49 g1 _ ([Λ A1 0 k1,I J 0,I J 0]) (T4.out.get 1 rfl) rfl Wl (by simp[Γ]) rfl rfl rfl rfl rfl ?_
   intro w5 p5;have T5:=Hh (T4.out.put 1 rfl p5);clear p5)
 |((with_reducible refine Zg 4 9 ?_);refine Za 29 _ _ 29 g2 _ ([I J E,I J (l:Int),I J (c:Int)]) (T5.out.get 2 rfl) rfl Vb (by simp[Γ]) rfl rfl rfl rfl rfl ?_
   intro w6 p6;have T6:=Hh (T5.out.put 2 rfl p6);clear p6)
 |((with_reducible refine Zd 10 ?_);refine Zc 49 _ 49 g1 _ (T6.out.get 1 rfl) Zbh Wl rfl rfl rfl ?_)
 |((with_reducible refine Zd 11 ?_);refine Zc 29 _ 29 g2 _ (T6.out.get 2 rfl) Zcl Vb rfl rfl rfl ?_)
 |((with_reducible refine Zg 2 12 ?_);refine Za 51 _ _ 51 g0 _ ([Λ A1 0 k1,I J 0,I J 0,I J E,I J (l:Int),I J (c:Int)]) (T6.out.get 0 rfl) rfl Yc (by simp[Γ]) rfl rfl rfl rfl rfl ?_
   intro w7 p7;have T7:Hid (Env w [(g0,51,[Λ A1 0 k1,I J 0,I J 0,I J E,I J (l:Int),I J (c:Int)]),(g1,49,[Λ A1 0 k1,I J 0,I J 0]),(g2,29,[I J E,I J (l:Int),I J (c:Int)])] [] [] w7):=Hh (T6.out.put 0 rfl p7);clear p7))
  refine Ya 2 51 51 _ _ rfl (T7.out.get 0 rfl) Zm Yc rfl rfl ?_;refine⟨_,0,0,none,0,rfl,?_,?_,?_,T7.out.below⟩
  · rw[HE.out.2.1,HE.out.2.2]
    exact RPv.mkBad (F:=(E,l,c)) A1 0 k1 0 0 (Nat.zero_le _) HE.out.1
  ·rw[HE.out.2.2];intro h;exact absurd h (Nat.lt_irrefl _)
  ·rw[HE.out.2.2];exact Yd _ _
 ·have hn:=fun x=>qNew_ok s x hs2 L hv hL
  have e1:Je s=.ok 0 0:=by unfold Je;rw[hv];exact if_pos rfl
  have e2:Wh s=L:=by unfold Wh;rw[hv]
  have hpos:=hL.pos;have HE:=Hh (ζ e1 (ζ e2 hpos));clear hs hs2 hv e1 e2 hL hpos;go_enter Tryz.func16,Tryz.ntmps16;go_wp2_with(first
 |((with_reducible refine Zd 2 ?_);refine Zb T0.out 51 _ rfl rfl z_P ?_;intro w1 g0 t1
   have T1:=Hh (t1);clear t1)
 |(go_at_call 38;refine(hn _).mono ?_;rintro e w2 ⟨r,K,rfl,hr,hlo,b2⟩
   have hd:Zs (fun k=>w1.heap.size≤k) w2 (.row L.length (Zcj L) .nil) [Λ (some ⟨r,0,none⟩) L.length K]:=⟨_,_,Jd L,[],rfl,⟨Ξ hr.capL hr.capM,hr.capL⟩,.inr ⟨r,rfl,hlo,hr.rin,hr.row⟩,toks_deep _ _ L,rfl⟩
   have HR:=Hh hr;have T2:=Hh (T1.out.tree b2 hd);clear hr hlo hd;clear b2)
 |((with_reducible refine Zd 3 ?_);refine Zb T2.out 49 _ rfl rfl z_C ?_;intro w3 g1 t3
   have T3:=Hh (t3);clear t3)
 |((with_reducible refine Zd 4 ?_);refine Zb T3.out 29 _ rfl rfl z_F ?_;intro w4 g2 t4
   have T4:=Hh (t4);clear t4)
 |((with_reducible refine Zg 3 8 ?_);refine Za 49 _ _ 49 g1 _ ([Λ (some ⟨r,0,none⟩) L.length K,I J 0,I J 0]) (T4.out.get 1 rfl) rfl Wl (by simp[Γ]) rfl rfl rfl rfl rfl ?_
   intro w5 p5;have T5:=Hh (T4.out.put 1 rfl p5);clear p5)
 |((with_reducible refine Zg 4 9 ?_);refine Za 29 _ _ 29 g2 _ ([I J 0,I J 0,I J 0]) (T5.out.get 2 rfl) rfl Vb (by simp[Γ]) rfl rfl rfl rfl rfl ?_
   intro w6 p6;have T6:=Hh (T5.out.put 2 rfl p6);clear p6)
 |((with_reducible refine Zd 10 ?_);refine Zc 49 _ 49 g1 _ (T6.out.get 1 rfl) Zbh Wl rfl rfl rfl ?_)
 |((with_reducible refine Zd 11 ?_);refine Zc 29 _ 29 g2 _ (T6.out.get 2 rfl) Zcl Vb rfl rfl rfl ?_)
 |((with_reducible refine Zg 2 12 ?_);refine Za 51 _ _ 51 g0 _ ([Λ (some ⟨r,0,none⟩) L.length K,I J 0,I J 0,I J 0,I J 0,I J 0]) (T6.out.get 0 rfl) rfl Yc (by simp[Γ]) rfl rfl rfl rfl rfl ?_
   intro w7 p7;have T7:Hid (Env w [(g0,51,[Λ (some ⟨r,0,none⟩) L.length K,I J 0,I J 0,I J 0,I J 0,I J 0]),(g1,49,[Λ (some ⟨r,0,none⟩) L.length K,I J 0,I J 0]),(g2,29,[I J 0,I J 0,I J 0])] [] [(.row L.length (Zcj L) .nil,[Λ (some ⟨r,0,none⟩) L.length K])] w7):=Hh (T6.out.put 0 rfl p7);clear p7))
  refine Ya 2 51 51 _ _ rfl (T7.out.get 0 rfl) Zm Yc rfl rfl ?_;refine⟨_,r,K,some ⟨r,0,none⟩,K,rfl,?_,?_,?_,T7.out.below⟩
  · rw[HE.out.1,HE.out.2.1]
    exact RPv.mkOk (a:=0) (d:=0) rfl HE.out.2.2 (Nat.zero_le _)
  ·rw[HE.out.2.1];intro _;exact⟨rfl,HR.out.ends,HR.out.capL,HR.out.capM⟩
  ·rw[HE.out.2.1];exact T7.out.leaf 0 rfl
open Go Go.RowKit
section
variable {w x y:World} {bs:List Bk} {ts:List (Ds×List Value)} {ra rb:Rw} {v':Value} {news:List Value}
theorem Env.pushL(h:Env w bs [ra,rb] ts x)(ho:y.ownsRow w.heap.size ra.e ra.sz v' (ra.n+1) (ra.xs++news))(hg:x.grownBy y ra.v.ownBlock)
  (hat:v'.ownBlock=ra.v.ownBlock∨v'.ownBlock=some x.heap.size):Env w bs [⟨v',ra.e,ra.sz,ra.n+1,ra.xs++news⟩,rb] ts y:=by
 have hk:Zy (fun k=>ra.v.ownBlock=some k) x y:=Zy.grown (Zy.refl _ _) hg fun k hk=>hk
 have ma:ra ∈ [ra,rb]:=List.mem_cons_self;have mb:rb ∈ [ra,rb]:=List.mem_cons_of_mem _ (List.mem_singleton.2 rfl);have hr:=h.row _ ma;have hrb:=h.row _ mb;have ha:=h.apart _ ma;have hab:∀ k,ra.v.ownBlock=some k→rb.v.ownBlock≠some k:=(List.pairwise_cons.1 h.rapart).1 rb (List.mem_singleton.2 rfl)
 refine⟨fun b hb=>hk.whole (h.at_ b hb) (ha b hb),h.lo,h.nod,fun r hr'=>?_,fun r hr' b hb=>?_,?_,fun u hu=>?_,h.below.trans (hk.below h.below.size fun k e=>(hr.lt k e).1)⟩
 ·rcases List.mem_cons.1 hr' with rfl | hr'
  ·exact ho
  ·cases List.mem_singleton.1 hr'
   exact hk.owns hrb fun k hk' c=>hab k c hk'
 ·rcases List.mem_cons.1 hr' with rfl | hr'
  ·show v'.ownBlock≠_
   rcases hat with e | e
   ·rw[e];exact ha b hb
   ·rw[e];intro c
    have:=(h.at_ b hb).inside;injection c with c;omega
  ·cases List.mem_singleton.1 hr'
   exact h.apart _ mb b hb
 ·refine List.pairwise_cons.2 ⟨fun r hr' k hk'=>?_,List.pairwise_singleton _ _⟩
  cases List.mem_singleton.1 hr'
  have hk'':v'.ownBlock=some k:=hk';rcases hat with e | e
  ·rw[e]at hk'';exact hab k hk''
  ·rw[e]at hk'';injection hk'' with e2
   intro c;have:=(hrb.lt k c).2;omega
 ·refine(h.deep u hu).keeps hk fun k hk' hn=>⟨hn.2.2 _ ma,hn.1,hn.2.1,fun r hr'=>?_⟩
  rcases List.mem_cons.1 hr' with rfl | hr'
  ·show v'.ownBlock≠_
   rcases hat with e | e
   ·rw[e];exact hn.2.2 _ ma
   ·rw[e];intro c;injection c with c;omega
  ·cases List.mem_singleton.1 hr'
   exact hn.2.2 _ mb
theorem Env.turn(h:Env w bs [ra,rb] ts x):Env w bs [rb,ra] ts x:=by
 have ma:ra ∈ [ra,rb]:=List.mem_cons_self;have mb:rb ∈ [ra,rb]:=List.mem_cons_of_mem _ (List.mem_singleton.2 rfl);have hab:∀ k,ra.v.ownBlock=some k→rb.v.ownBlock≠some k:=(List.pairwise_cons.1 h.rapart).1 rb (List.mem_singleton.2 rfl)
 have hm:∀ r,r ∈ [rb,ra]→r ∈ [ra,rb]:=fun r hr=>by
  rcases List.mem_cons.1 hr with rfl | hr
  ·exact mb
  ·cases List.mem_singleton.1 hr;exact ma
 have hm':∀ r,r ∈ [ra,rb]→r ∈ [rb,ra]:=fun r hr=>by
  rcases List.mem_cons.1 hr with rfl | hr
  ·exact List.mem_cons_of_mem _ (List.mem_singleton.2 rfl)
  ·cases List.mem_singleton.1 hr;exact List.mem_cons_self
 refine⟨h.at_,h.lo,h.nod,fun r hr=>h.row r (hm r hr),fun r hr=>h.apart r (hm r hr),?_,fun u hu=>(h.deep u hu).mono fun k _ hn=>⟨hn.1,hn.2.1,fun r hr=>hn.2.2 r (hm r hr)⟩,h.below⟩;refine List.pairwise_cons.2 ⟨fun r hr k hk c=>?_,List.pairwise_singleton _ _⟩;cases List.mem_singleton.1 hr
 exact hab k c hk
theorem Env.pushR(h:Env w bs [ra,rb] ts x)(ho:y.ownsRow w.heap.size rb.e rb.sz v' (rb.n+1) (rb.xs++news))(hg:x.grownBy y rb.v.ownBlock)
 (hat:v'.ownBlock=rb.v.ownBlock∨v'.ownBlock=some x.heap.size):Env w bs [ra,⟨v',rb.e,rb.sz,rb.n+1,rb.xs++news⟩] ts y:=(h.turn.pushL ho hg hat).turn
theorem Env.rows2(h:Env w bs [] ts x)(e1 e2:TypeId)(s1 s2:Nat):Env w bs [⟨Λ none 0 0,e1,s1,0,[]⟩,⟨Λ none 0 0,e2,s2,0,[]⟩] (ts++[(.nil,[])]++[(.nil,[])]) x:=by
 have hz:∀ r:Rw,r ∈ [(⟨Λ none 0 0,e1,s1,0,[]⟩:Rw),⟨Λ none 0 0,e2,s2,0,[]⟩]→r.v.ownBlock=none∧x.ownsRow w.heap.size r.e r.sz r.v r.n r.xs:=fun r hr=>by
  rcases List.mem_cons.1 hr with rfl | hr
  ·exact⟨rfl,World.ownsRow_nil _ _ _ _⟩
  ·cases List.mem_singleton.1 hr;exact⟨rfl,World.ownsRow_nil _ _ _ _⟩
 have h2:Env w bs [⟨Λ none 0 0,e1,s1,0,[]⟩,⟨Λ none 0 0,e2,s2,0,[]⟩] ts x:=
  ⟨h.at_,h.lo,h.nod,fun r hr=>(hz r hr).2,fun r hr b hb=>by rw[(hz r hr).1];simp,List.pairwise_cons.2 ⟨fun r hr k hk=>(by cases hk),List.pairwise_singleton _ _⟩,
    fun u hu=>(h.deep u hu).mono fun k _ hn=>⟨hn.1,hn.2.1,fun r hr=>by rw[(hz r hr).1];simp⟩,h.below⟩
 exact(h2.addT (ds:=.nil) (vs:=[]) rfl).addT (ds:=.nil) (vs:=[]) rfl
end
open Go
structure Zcv(L:List TokV):Prop where
 int:∀ a,(Yb L a).k=2→0≤(Yb L a).n∧(Yb L a).n≤99
 name:∀ a,(Yb L a).k=3→Zhv (Yb L a).t
def AtD(d:Nat)(st:St):Prop:=∃ a,st=.ok a d
theorem Zjn{F:Int×Nat×Nat}{a d:Nat}(h:(Ji F (.ok a d)).good=true):F.1=0∧Ji F (.ok a d)=.ok a d:=by
 have e:Ji F (.ok a d)=if F.1=0 then .ok a d else .bad F:=rfl
 rw[e]at h ⊢;by_cases h0:F.1=0
 ·rw[if_pos h0];exact⟨h0,rfl⟩
 ·rw[if_neg h0]at h;cases h
section
variable {L:List TokV} {nk:Int}
theorem Zam{ws:List ByteArray}{st:St}{d:Nat}(h:(Zn L ws st).good=true)(ha:AtD d st):AtD d (Zn L ws st)∧1≤(Zk L ws st:Int)∧(Zk L ws st:Int)≤ws.length:=by
 obtain⟨a,rfl⟩:=ha;unfold Zn at h ⊢;by_cases h0:Zk L ws (.ok a d)=0
 ·rw[if_pos h0]at h;cases h
 ·rw[if_neg h0]
  have h0':¬ Zaz (Yb L a) ws=0:=h0;have hle:=Zey (Yb L a) ws;refine⟨⟨onA L a,?_⟩,?_,?_⟩
  ·show(if Zaz (Yb L a) ws=0 then St.ok a d else .ok (onA L a) d)=_
   rw[if_neg h0']
  ·have:Zk L ws (.ok a d)=Zaz (Yb L a) ws:=rfl
   omega
  ·have:Zk L ws (.ok a d)=Zaz (Yb L a) ws:=rfl
   omega
theorem Zdf{ws:List ByteArray}{st:St}{d:Nat}(ha:AtD d st):AtD d (Ye L ws st):=by
 obtain⟨a,rfl⟩:=ha;show AtD d (if Zaz (Yb L a) ws=0 then St.ok a d else .ok (onA L a) d);split
 ·exact⟨_,rfl⟩
 ·exact⟨_,rfl⟩
theorem take_at{t:ByteArray}{st:St}{d:Nat}(ha:AtD d st):AtD d (Vu L t st):=by
 obtain⟨a,rfl⟩:=ha;exact⟨_,rfl⟩
theorem Zed{t:ByteArray}{st:St}{d:Nat}(h:(Zz L t st).good=true)(ha:AtD d st):AtD d (Zz L t st):=by
 unfold Zz at h ⊢;split at h
 ·rename_i h0;rw[if_pos h0];exact take_at ha
 ·obtain⟨a,rfl⟩:=ha;cases h
theorem int_at(hR:Zcv L){st:St}{d:Nat}(h:(Zbt L st).good=true)(ha:AtD d st):AtD d (Zbt L st)∧0≤Zgr L st∧Zgr L st≤99:=by
 obtain⟨a,rfl⟩:=ha;obtain⟨h0,e⟩:=Zjn h
 have hk:(Yb L a).k=2:=by
  unfold Wd at h0;split at h0
  ·assumption
  ·exact absurd h0 (Zhb _)
 refine⟨⟨_,e⟩,?_⟩;have e2:Zgr L (.ok a d)=(Yb L a).n:=by show Zkx L a=_;unfold Zkx;rw[if_pos hk]
 rw[e2];exact hR.int a hk
theorem Zoo(hR:Zcv L){st:St}{d:Nat}(h:(Wp L st).good=true)(ha:AtD d st):AtD d (Wp L st)∧Zhv (Zct L st):=by
 obtain⟨a,rfl⟩:=ha;obtain⟨h0,e⟩:=Zjn h
 have hk:(Yb L a).k=3:=by
  unfold Wd at h0;split at h0
  ·assumption
  ·exact absurd h0 (Zhb _)
 refine⟨⟨_,e⟩,?_⟩;have e2:Zct L (.ok a d)=(Yb L a).t:=by show Znn L a=_;unfold Znn;rw[if_pos hk]
 rw[e2];exact hR.name a hk
theorem sign_at(hR:Zcv L){st:St}{d:Nat}(h:(Zbe L st).good=true)(ha:AtD d st):AtD d (Zbe L st) ∧ -99≤Zeh L st∧Zeh L st≤99:=by
 obtain⟨a,rfl⟩:=ha;obtain⟨h0,e⟩:=Zjn h;refine⟨⟨_,e⟩,?_⟩;show -99≤Znj L a∧Znj L a≤99;unfold Zbf Wd at h0;unfold Znj Zkx;by_cases hm:isT (Yb L a) Zno=true
 ·rw[if_pos hm]at h0 ⊢
  by_cases hk:(Yb L (onA L a)).k=2
  ·rw[if_pos hk];have:=hR.int _ hk;omega
  ·rw[if_neg hk];omega
 ·rw[if_neg hm]at h0 ⊢
  by_cases hk:(Yb L a).k=2
  ·rw[if_pos hk];have:=hR.int _ hk;omega
  ·rw[if_neg hk];omega
theorem down_at{t:ByteArray}{st:St}{d:Nat}(h:(Zaa L t st).good=true)(ha:AtD d st):AtD (d+1) (Zaa L t st)∧d≠8:=by
 obtain⟨a,rfl⟩:=ha;unfold Zaa at h ⊢;have hg:=Ur h;have hd:Zjc L t (.ok a d)=if isT (Yb L a) t=true then Ji (Jq L a d) (.ok a (Zdg d))else .ok a d:=rfl
 rw[hd]at h hg ⊢;by_cases ht:isT (Yb L a) t=true
 ·rw[if_pos ht]at h hg ⊢
  obtain⟨h0,e⟩:=Zjn hg
  have h8:d≠8:=by
   intro h8;unfold Jq at h0;rw[if_pos h8]at h0;exact absurd h0 (by simp)
  rw[e]at h ⊢;have e1:Zdg d=d+1:=by unfold Zdg;rw[if_neg h8]
  rw[e1]at h ⊢;exact⟨Zed h ⟨_,rfl⟩,h8⟩
 ·rw[if_neg ht]at h
  unfold Zz at h;have:¬ isS L t (.ok a d)=true:=ht;rw[if_neg this]at h;cases h
theorem rise_at{t:ByteArray}{st:St}{d:Nat}(h:(Znl L t st).good=true)(ha:AtD (d+1) st):AtD d (Znl L t st):=by
 unfold Znl at h ⊢;obtain⟨b,e⟩:=Zed (Zor h) ha;rw[e];exact⟨b,rfl⟩
theorem good_sign:∀{s:St},(Zbe L s).good=true→s.good=true
 |.ok a d,_=>rfl
 |.bad F,h=>h
theorem Zlz:∀{s:St},(Zbt L s).good=true→s.good=true
 |.ok a d,_=>rfl
 |.bad F,h=>h
theorem filter_val(hR:Zcv L){k:Nat}(hk:1≤k∧k≤4){st:St}{d:Nat}(h:(Js nk L k st).2.good=true)(ha:AtD d st):AtD d (Js nk L k st).2∧VFl (Js nk L k st).1:=by
 unfold Js at h ⊢;by_cases h12:k=1∨k=2
 ·rw[if_pos h12]at h ⊢
  have h':(Zbe L (Zn L wOp st)).good=true:=h;obtain⟨a1,f1,f2⟩:=Zam (good_sign h') ha;obtain⟨a2,f3,f4⟩:=sign_at hR h' a1;exact⟨a2,.inl ⟨(by show(k:Int)=1∨(k:Int)=2;omega),⟨f1,f2⟩,⟨f3,f4⟩,rfl⟩⟩
 ·rw[if_neg h12]at h ⊢
  by_cases h3:k=3
  ·rw[if_pos h3]at h ⊢
   obtain⟨a1,f1⟩:=Zoo hR h ha;exact⟨a1,.inr (.inl ⟨rfl,rfl,rfl,f1⟩)⟩
  ·rw[if_neg h3]at h ⊢
   have h':(Zn L Zeu st).good=true:=h;obtain⟨a1,f1,f2⟩:=Zam h' ha;have f2':(Zk L Zeu st:Int)≤2:=f2;refine⟨a1,.inr (.inr ⟨?_,rfl,rfl,rfl⟩)⟩;dsimp only;rw[if_neg (by omega)];omega
theorem Znv(hR:Zcv L):∀(n:Nat)(st:St)(d:Nat),(Yk nk L n st).2.good=true→AtD d st→AtD d (Yk nk L n st).2∧∀ f ∈ (Yk nk L n st).1,VFl f
 |0,st,d,h,ha=>⟨ha,fun f hf=>by cases hf⟩
 |n+1,st,d,h,ha=>by
  rw[Yk]at h ⊢;by_cases h0:Zk L Wt st=0
  ·rw[if_pos h0];exact⟨ha,fun f hf=>by cases hf⟩
  ·rw[if_neg h0]at h ⊢
   dsimp only at h ⊢;have hle:Zk L Wt st≤4:=by obtain⟨a,rfl⟩:=ha;exact Zey (Yb L a) Wt
   have hg:=Zma h;obtain⟨a1,v1⟩:=filter_val hR ⟨by omega,hle⟩ hg (Zdf ha);obtain⟨a2,v2⟩:=Znv hR n _ d h a1;refine⟨a2,fun f hf=>?_⟩;rcases List.mem_cons.1 hf with rfl | hf
   ·exact v1
   ·exact v2 f hf
theorem where_val(hR:Zcv L){st:St}{d:Nat}(h:(Zcy L st).good=true)(ha:AtD d st) :
  AtD d (Zcy L st)∧(1≤(Zai L st).1∧(Zai L st).1≤3)∧(1≤(Zai L st).2.1∧(Zai L st).2.1≤4)∧(0≤(Zai L st).2.2∧(Zai L st).2.2≤99)∧((Zai L st).2.1≠3→(Zai L st).2.2=0):=by
 unfold Zcy at h ⊢;unfold Zai;dsimp only;by_cases h3:Zk L Yq (Zn L Zq st)=3
 ·rw[if_pos h3]at h ⊢
  have g1:=Zlz h;obtain⟨a1,f1⟩:=Zam (Zbl g1) ha;obtain⟨a2,f2⟩:=Zam g1 a1;obtain⟨a3,f3⟩:=int_at hR h a2;rw[if_pos h3];exact⟨a3,f1,f2,f3,fun hh=>by omega⟩
 ·rw[if_neg h3]at h ⊢
  obtain⟨a1,f1⟩:=Zam (Zbl h) ha;obtain⟨a2,f2⟩:=Zam h a1;rw[if_neg h3];exact⟨a2,f1,f2,by omega,fun _=>rfl⟩
theorem Zlk(hR:Zcv L){n:Nat}{st:St}{d:Nat}(h:(Xz nk L n st).2.good=true)(ha:AtD d st):AtD d (Xz nk L n st).2∧VSe (Xz nk L n st).1:=by
 unfold Xz at h ⊢;by_cases h3:Zk L Yr st=3
 ·rw[if_pos h3]at h ⊢
  dsimp only at h ⊢;have g1:=Ur h;have g2:=Zma (Zbl g1)
  have g3:(Zn L Yr st).good=true:=by
   unfold Zcy at g2;split at g2
   ·exact Zbl (Zbl (Zlz g2))
   ·exact Zbl (Zbl g2)
  obtain⟨a1,_⟩:=Zam g3 ha;obtain⟨a2,f2,f3,f4,f5⟩:=where_val hR g2 a1;obtain⟨a3,f6⟩:=Znv hR n _ d (Zbl g1) a2;obtain⟨a4,f7⟩:=Zam g1 a3;exact⟨Zed h a4,.inr ⟨rfl,f2,f3,f4,f5,f6,f7⟩⟩
 ·rw[if_neg h3]at h ⊢
  obtain⟨a1,f1,f2⟩:=Zam h ha;have f2':(Zk L Yr st:Int)≤3:=f2;refine⟨a1,.inl ⟨?_,rfl,rfl,rfl,rfl,rfl⟩⟩;dsimp only;omega
theorem to_val(hR:Zcv L){st:St}{d:Nat}(h:(toS L st).good=true)(ha:AtD d st):AtD d (toS L st)∧VTo (toK L st) (toL L st):=by
 unfold toS at h ⊢;unfold toK toL;by_cases h4:Zk L wTo st=4
 ·rw[if_pos h4]at h ⊢
  obtain⟨a1,_⟩:=Zam (Zlz h) ha;obtain⟨a2,f⟩:=int_at hR h a1;rw[if_pos h4];exact⟨a2,.inr ⟨by omega,f⟩⟩
 ·rw[if_neg h4]at h ⊢
  obtain⟨a1,f1,f2⟩:=Zam h ha;have f2':(Zk L wTo st:Int)≤4:=f2;rw[if_neg h4];exact⟨a1,.inl ⟨by omega,rfl⟩⟩
def GE(d:Nat)(x:Ex):Prop:=VEx x∧pD x+d≤8
def GP(d:Nat)(x:Ex):Prop:=VEx x∧pD x+d≤8∧(x.isSum=true→pD x+1+d≤8)
def GF(d:Nat)(x:Ex):Prop:=VEx x∧pD x+d≤8∧(x.isBin=true→pD x+1+d≤8)
theorem GF.gp{d:Nat}{x:Ex}(h:GF d x):GP d x:=⟨h.1,h.2.1,fun hs=>h.2.2 (Zmz hs)⟩
theorem GP.ge{d:Nat}{x:Ex}(h:GP d x):GE d x:=⟨h.1,h.2.1⟩
theorem kd_bd{b:Bool}{n d:Nat}(h:n+d≤8)(h2:b=true→n+1+d≤8):kD b n+d≤8:=by
 unfold kD;split
 ·rename_i hb;have:=h2 hb;omega
 ·exact h
theorem ge_bin{d:Nat}{op:Int}{l r:Ex}(ho:1≤op∧op≤2)(hl:GE d l)(hr:GP d r):GE d (.bin op l r):=by
 obtain⟨m1,m2⟩:=must_sum (show op≠3 from by omega) l r;refine⟨⟨⟨ho.1,by omega⟩,hl.1,hr.1⟩,?_⟩;rw[pD,m1,m2];have:=kd_bd (b:=r.isSum) hr.2.1 hr.2.2;have h1:kD false (pD l)=pD l:=rfl;have:=hl.2;omega
theorem gp_bin{d:Nat}{l r:Ex}(hl:GP d l)(hr:GF d r):GP d (.bin 3 l r):=by
 obtain⟨m1,m2⟩:=must_times l r;refine⟨⟨by decide,hl.1,hr.1⟩,?_,fun h=>by cases h⟩;rw[pD,m1,m2];have:=kd_bd (b:=l.isSum) hl.2.1 hl.2.2;have:=kd_bd (b:=r.isBin) hr.2.1 hr.2.2;omega
theorem good_prodL{n:Nat}:∀{x:Ex×St},(Jv nk L n x).2.good=true→x.2.good=true
 |(e,.ok a d),_=>rfl
 |(e,.bad F),h=>by rw[(Zjt n).2.2.2.1 e F]at h;exact h
theorem good_exprL{n:Nat}:∀{x:Ex×St},(Jz nk L n x).2.good=true→x.2.good=true
 |(e,.ok a d),_=>rfl
 |(e,.bad F),h=>by rw[(Zjt n).2.1 e F]at h;exact h
theorem exprs_val(hR:Zcv L):∀ n:Nat,
  (∀ st d,4*Zx L st+3≤n→d≤8→(Yj nk L n st).2.good=true→AtD d st→AtD d (Yj nk L n st).2∧GE d (Yj nk L n st).1) ∧
  (∀ x d,4*Zx L x.2≤n→d≤8→(Jz nk L n x).2.good=true→AtD d x.2→GE d x.1→AtD d (Jz nk L n x).2∧GE d (Jz nk L n x).1) ∧
  (∀ st d,4*Zx L st+2≤n→d≤8→(Vp nk L n st).2.good=true→AtD d st→AtD d (Vp nk L n st).2∧GP d (Vp nk L n st).1) ∧
  (∀ x d,4*Zx L x.2≤n→d≤8→(Jv nk L n x).2.good=true→AtD d x.2→GP d x.1→AtD d (Jv nk L n x).2∧GP d (Jv nk L n x).1) ∧
  (∀ st d,4*Zx L st+1≤n→d≤8→(Ww nk L n st).2.good=true→AtD d st→AtD d (Ww nk L n st).2∧GF d (Ww nk L n st).1)
 |0=>by
  refine⟨fun st d h=>by omega,fun x d _ _ _ ha hg=>⟨ha,hg⟩,fun st d h=>by omega,fun x d _ _ _ ha hg=>⟨ha,hg⟩,fun st d h=>by omega⟩
 |n+1=>by
  obtain⟨i1,i2,i3,i4,i5⟩:=exprs_val hR n;refine⟨fun st d hn hd h ha=>?_,fun x d hn hd h ha hg=>?_,fun st d hn hd h ha=>?_,fun x d hn hd h ha hg=>?_,fun st d hn hd h ha=>?_⟩
  ·rw[Yj]at h ⊢
   have r1:=Zip L nk n st;obtain⟨a1,g1⟩:=i3 st d (by omega) hd (good_exprL h) ha;exact i2 _ d (by omega) hd h a1 g1.ge
  ·rw[Jz]at h ⊢
   by_cases h0:Zk L Zcz x.2=0
   ·rw[if_pos h0];exact⟨ha,hg⟩
   ·rw[if_neg h0]at h ⊢
    have r1:=Vt L h0;have r2:=Zip L nk n (Ye L Zcz x.2);have hp:=good_exprL h;obtain⟨a1,g1⟩:=i3 _ d (by omega) hd hp (Zdf ha);have hle:Zk L Zcz x.2≤2:=by obtain⟨a,e⟩:=ha;rw[e];exact Zey (Yb L a) Zcz
    exact i2 _ d (by dsimp only;omega) hd h a1 (ge_bin ⟨by omega,by omega⟩ hg g1)
  ·rw[Vp]at h ⊢
   have r1:=Ziq L nk n st;obtain⟨a1,g1⟩:=i5 st d (by omega) hd (good_prodL h) ha;exact i4 _ d (by omega) hd h a1 g1.gp
  ·rw[Jv]at h ⊢
   by_cases h0:isS L Vs x.2=true
   ·rw[if_pos h0]at h ⊢
    have r1:=Zin L h0;have r2:=Ziq L nk n (Vu L Vs x.2);have hp:=good_prodL h;obtain⟨a1,g1⟩:=i5 _ d (by omega) hd hp (take_at ha);exact i4 _ d (by dsimp only;omega) hd h a1 (gp_bin hg g1)
   ·rw[if_neg h0];exact⟨ha,hg⟩
  ·rw[Ww]at h ⊢
   have leaf0:∀{kind n':Int}{sel:Se}{side tk tl:Int},VLeaf kind n' sel side tk tl→GF d (.leaf kind n' sel side tk tl):=fun hv=>⟨hv,by rw[pD];omega,fun hh=>by cases hh⟩
   by_cases ho:isS L Zab st=true
   ·rw[if_pos ho]at h ⊢
    dsimp only at h ⊢;have r1:=rem_downed L ho;have g0:=Ur (Zor h);obtain⟨a1,h8⟩:=down_at (Zgs g0) ha;obtain⟨a2,g1⟩:=i1 _ (d+1) (by omega) (by omega) g0 a1;exact⟨rise_at h a2,g1.1,by have:=g1.2;omega,fun _=>by have:=g1.2;omega⟩
   ·rw[if_neg ho]at h ⊢
    by_cases h0:Zk L Wa st=0
    ·rw[if_pos h0]at h ⊢
     obtain⟨a1,f1⟩:=sign_at hR h ha;exact⟨a1,leaf0 (.inl ⟨rfl,f1,rfl,rfl,rfl,rfl⟩)⟩
    ·rw[if_neg h0]at h ⊢
     have hle:Zk L Wa st≤5:=by obtain⟨a,e⟩:=ha;rw[e];exact Zey (Yb L a) Wa
     by_cases h12:Zk L Wa st=1∨Zk L Wa st=2
     ·rw[if_pos h12]at h ⊢
      obtain⟨a1,f1⟩:=Zlk hR h (Zdf ha);exact⟨a1,leaf0 (.inr (.inl ⟨by omega,rfl,f1,rfl,rfl,rfl⟩))⟩
     ·rw[if_neg h12]at h ⊢
      by_cases h3:Zk L Wa st=3
      ·rw[if_pos h3];exact⟨Zdf ha,leaf0 (.inr (.inr (.inl ⟨rfl,rfl,rfl,rfl,rfl,rfl⟩)))⟩
      · rw[if_neg h3]at h ⊢
        by_cases h4:Zk L Wa st=4
        ·rw[if_pos h4]at h ⊢
         obtain⟨a1,f1⟩:=Zam h (Zdf ha);exact⟨a1,leaf0 (.inr (.inr (.inr (.inl ⟨rfl,rfl,rfl,f1,rfl,rfl⟩))))⟩
        ·rw[if_neg h4]at h ⊢
         obtain⟨a1,f1⟩:=Zam (Zos h) (Zdf ha);obtain⟨a2,f2⟩:=to_val hR h a1;exact⟨a2,leaf0 (.inr (.inr (.inr (.inr ⟨rfl,rfl,rfl,f1,f2⟩))))⟩
theorem Zja(hR:Zcv L){n:Nat}{st:St}{d:Nat}(hn:4*Zx L st+3≤n)(hd:d≤8)(h:(Yj nk L n st).2.good=true)(ha:AtD d st):AtD d (Yj nk L n st).2∧VEx (Yj nk L n st).1∧pD (Yj nk L n st).1+d≤8:=
 (exprs_val hR n).1 st d hn hd h ha
theorem plain_val(hR:Zcv L){n k:Nat}{l c:Int}{st:St}{d:Nat}(hk:1≤k∧k≤15∧k≠10∧k≠11)(hn:4*Zx L st+3≤n)(hd:d≤8)(h:(Xi nk L n (AH.zero k l c) k st).2.good=true)(ha:AtD d st) :
  AtD d (Xi nk L n (AH.zero k l c) k st).2∧Zdk d (Xi nk L n (AH.zero k l c) k st).1:=by
 unfold Xi at h ⊢;unfold Zdk;by_cases c1:k=1∨k=2∨k=12
 ·rw[if_pos c1]at h ⊢
  dsimp only at h ⊢;have r:=Zal L nk n st;obtain⟨a1,f1⟩:=Zlk hR (Zgs h) ha;obtain⟨a2,f2⟩:=Zja hR (by omega) hd h a1;exact⟨a2,.inl ⟨by show((k:Int)=1∨(k:Int)=2∨(k:Int)=12);omega,rfl,f1,f2⟩⟩
 ·rw[if_neg c1]at h ⊢
  by_cases c2:k=3∨k=5∨k=14
  ·rw[if_pos c2]at h ⊢
   dsimp only at h ⊢;obtain⟨a1,f1⟩:=Zlk hR h ha;exact⟨a1,.inr (.inl ⟨by show((k:Int)=3∨(k:Int)=5∨(k:Int)=14);omega,rfl,f1⟩)⟩
  ·rw[if_neg c2]at h ⊢
   by_cases c3:k=4
   ·rw[if_pos c3]at h ⊢
    dsimp only at h ⊢;obtain⟨a1,f1⟩:=Zlk hR (Zos h) ha;obtain⟨a2,f2⟩:=to_val hR h a1;exact⟨a2,.inr (.inr (.inl ⟨by show(k:Int)=4;omega,rfl,f1,f2⟩))⟩
   ·rw[if_neg c3]at h ⊢
    by_cases c4:k=6
    ·rw[if_pos c4]at h ⊢
     dsimp only at h ⊢;have g1:=Zgs h;have g2:=Zos g1;have r1:=Zhh L (Zn L Zq (Wp L st));have r2:=Xy L Zq (Wp L st);have r3:=Zbi L st;obtain⟨a1,f1⟩:=Zoo hR (Zbl g2) ha;obtain⟨a2,f2⟩:=Zam g2 a1;obtain⟨a3,f3⟩:=to_val hR g1 a2;obtain⟨a4,f4⟩:=Zja hR (by omega) hd h a3;exact⟨a4,.inr (.inr (.inr (.inl ⟨by show(k:Int)=6;omega,rfl,f1,f2,f3,f4⟩)))⟩
    ·rw[if_neg c4]at h ⊢
     by_cases c5:k=7∨k=9
     ·rw[if_pos c5]at h ⊢
      dsimp only at h ⊢;have r2:=Xy L Zq st;obtain⟨a2,f2⟩:=Zam (Zgs h) ha;obtain⟨a4,f4⟩:=Zja hR (by omega) hd h a2;exact⟨a4,.inr (.inr (.inr (.inr (.inl ⟨by show((k:Int)=7∨(k:Int)=9);omega,rfl,f2,f4⟩))))⟩
     ·rw[if_neg c5]at h ⊢
      by_cases c6:k=8
      ·rw[if_pos c6]at h ⊢
       dsimp only at h ⊢;obtain⟨a2,f2⟩:=Zam (Zbl h) ha;obtain⟨a3,f3⟩:=Zam h a2;exact⟨a3,.inr (.inr (.inr (.inr (.inr (.inl ⟨by show(k:Int)=8;omega,rfl,f2,f3⟩)))))⟩
      ·rw[if_neg c6]at h ⊢
       have c7:k=13∨k=15:=by omega
       rw[if_pos c7]at h ⊢;dsimp only at h ⊢;obtain⟨a2,f2⟩:=Zam (Zos h) ha;obtain⟨a3,f3⟩:=to_val hR h a2;exact⟨a3,.inr (.inr (.inr (.inr (.inr (.inr ⟨by show((k:Int)=13∨(k:Int)=15);omega,rfl,f2,f3⟩)))))⟩
theorem cond_val(hR:Zcv L){n:Nat}{l c:Int}{st:St}{d:Nat}(hn:4*Zx L st+3≤n)(hd:d≤8)(h:(Jm nk L n (AH.zero 10 l c) st).2.good=true)(ha:AtD d st) :
  AtD d (Jm nk L n (AH.zero 10 l c) st).2∧Zkj d (Jm nk L n (AH.zero 10 l c) st).1:=by
 unfold Jm at h ⊢;dsimp only at h ⊢;have r1:=Zcd L nk n st;have r2:=Xy L wOp (Yj nk L n st).2;have g1:=Zgs h;obtain⟨a1,f1⟩:=Zja hR hn hd (Zbl g1) ha;obtain⟨a2,f2⟩:=Zam g1 a1;obtain⟨a3,f3⟩:=Zja hR (by omega) hd h a2;exact⟨a3,rfl,f2,f1,f3⟩
def VAO(d:Nat)(x:AO):Prop:=(d<8∧Zkj d x.h∧Zbw (d+1) x.thn∧Zbw (d+1) x.els)∨(d<8∧Zmi x.h∧Zbw (d+1) x.thn∧x.els=.nil)∨(Zdk d x.h∧x.thn=.nil∧x.els=.nil)
theorem acts_val(hR:Zcv L):∀ n:Nat,
  (∀ st d,4*Zx L st+1≤n→d≤8→(Xm nk L n st).2.good=true→AtD d st→AtD d (Xm nk L n st).2∧Zbw d (Xm nk L n st).1) ∧
  (∀(k:Nat)(l c:Int) st d,1≤k∧k≤15→4*Zx L st+4≤n→d≤8→(Ud nk L n (AH.zero k l c) k st).st.good=true→AtD d st →
    AtD d (Ud nk L n (AH.zero k l c) k st).st∧VAO d (Ud nk L n (AH.zero k l c) k st)) ∧
  (∀ st d,4*Zx L st+3≤n→d≤8→(Yt nk L n st).2.good=true→AtD d st→AtD d (Yt nk L n st).2∧Zbw (d+1) (Yt nk L n st).1∧d<8)
 |0=>⟨fun st d h=>by omega,fun k l c st d _ h=>by omega,fun st d h=>by omega⟩
 |n+1=>by
  obtain⟨i1,i2,i3⟩:=acts_val hR n;refine⟨fun st d hn hd h ha=>?_,fun k l c st d hk hn hd h ha=>?_,fun st d hn hd h ha=>?_⟩
  · rw[Xm]at h ⊢
    by_cases h0:Zk L Wj st=0
    ·rw[if_pos h0];exact⟨ha,trivial⟩
    ·rw[if_neg h0]at h ⊢
     dsimp only at h ⊢;have r1:=Vt L h0;have r2:=rem_act L nk n (AH.zero (Zk L Wj st) (st.tok L).line (st.tok L).col) (Zk L Wj st) (Ye L Wj st);have hle:Zk L Wj st≤15:=by obtain⟨a,e⟩:=ha;rw[e];exact Zey (Yb L a) Wj
     obtain⟨a1,f1⟩:=i2 _ _ _ _ d ⟨by omega,hle⟩ (by omega) hd (Zjq h) (Zdf ha);obtain⟨a2,f2⟩:=i1 _ d (by omega) hd h a1;exact⟨a2,f1,f2⟩
  · rw[Ud]at h ⊢
    by_cases h10:k=10
    ·rw[if_pos h10]at h ⊢
     subst h10;have r1:=rem_cond L nk n (AH.zero (10:Nat) l c) st;have r2:=Zgj L nk n (Jm nk L n (AH.zero (10:Nat) l c) st).2;by_cases he:isS L Zbg (Yt nk L n (Jm nk L n (AH.zero (10:Nat) l c) st).2).2=true
     ·rw[if_pos he]at h ⊢
      dsimp only at h ⊢;have r3:=Zin L he;have g1:=good_take (Zhp h);obtain⟨a1,f1⟩:=cond_val hR (by omega) hd (Zhp g1) ha;obtain⟨a2,f2,f3⟩:=i3 _ d (by omega) hd g1 a1;obtain⟨a3,f4,_⟩:=i3 _ d (by omega) hd h (take_at a2);exact⟨a3,.inl ⟨f3,f1,f2,f4⟩⟩
     ·rw[if_neg he]at h ⊢
      dsimp only at h ⊢;obtain⟨a1,f1⟩:=cond_val hR (by omega) hd (Zhp h) ha;obtain⟨a2,f2,f3⟩:=i3 _ d (by omega) hd h a1;exact⟨a2,.inl ⟨f3,f1,f2,trivial⟩⟩
    ·rw[if_neg h10]at h ⊢
     by_cases h11:k=11
     ·rw[if_pos h11]at h ⊢
      subst h11;dsimp only at h ⊢;have r1:=Zal L nk n st;obtain⟨a1,f1⟩:=Zlk hR (Zhp h) ha;obtain⟨a2,f2,f3⟩:=i3 _ d (by omega) hd h a1;exact⟨a2,.inr (.inl ⟨f3,⟨rfl,f1⟩,f2,rfl⟩)⟩
     ·rw[if_neg h11]at h ⊢
      dsimp only at h ⊢;obtain⟨a1,f1⟩:=plain_val hR ⟨hk.1,hk.2,h10,h11⟩ (by omega) hd (Ur h) ha;exact⟨Zed h a1,.inr (.inr ⟨f1,rfl,rfl⟩)⟩
  · rw[Yt]at h ⊢
    dsimp only at h ⊢;have g1:=Ur (Zor h);have r1:=Zln L Yu st;obtain⟨a1,h8⟩:=down_at (Zjq g1) ha;obtain⟨a2,f2⟩:=i1 _ (d+1) (by omega) (by omega) g1 a1;exact⟨rise_at h a2,f2,by omega⟩
theorem rules_val(hR:Zcv L):∀(n:Nat)(st:St),4*Zx L st+2≤n→(Wi nk L n st).2.good=true→AtD 0 st→AtD 0 (Wi nk L n st).2∧∀ r ∈ (Wi nk L n st).1,VRu r
 |0,st,h,_,_=>by omega
 |n+1,st,hn,h,ha=>by
  rw[Wi]at h ⊢;by_cases h0:Zk L Xf st=0
  ·rw[if_pos h0];exact⟨ha,fun r hr=>by cases hr⟩
  ·rw[if_neg h0]at h ⊢
   dsimp only at h ⊢;have r1:=Vt L h0;have r2:=Zok L (Zk L Xf st) (Ye L Xf st);have r3:=Xx L Yu (Zbc L (Zk L Xf st) (Ye L Xf st));have r4:=Zlo L nk n (Zz L Yu (Zbc L (Zk L Xf st) (Ye L Xf st)));have r5:=Xx L Xl (Xm nk L n (Zz L Yu (Zbc L (Zk L Xf st) (Ye L Xf st)))).2;have g1:=Zla h;have g2:=Ur g1;have g3:=Zjq g2;have g4:=Ur g3;have hle:Zk L Xf st≤6:=by obtain⟨a,e⟩:=ha;rw[e];exact Zey (Yb L a) Xf
   have hs:AtD 0 (Zbc L (Zk L Xf st) (Ye L Xf st))∧(0≤strN L (Zk L Xf st) (Ye L Xf st)∧strN L (Zk L Xf st) (Ye L Xf st)≤99)∧(Zk L Xf st≠5→strN L (Zk L Xf st) (Ye L Xf st)=0):=by
    unfold Zbc strN at *;by_cases h5:Zk L Xf st=5
    ·rw[if_pos h5]at g4 ⊢
     rw[if_pos h5];obtain⟨a1,f1⟩:=int_at hR g4 (Zdf ha);exact⟨a1,f1,fun hh=>absurd h5 hh⟩
    ·rw[if_neg h5,if_neg h5]
     exact⟨Zdf ha,by omega,fun _=>rfl⟩
   obtain⟨a1,f1,f2⟩:=hs;obtain⟨a2,f3⟩:=(acts_val hR n).1 _ 0 (by omega) (by omega) g2 (Zed g3 a1);obtain⟨a3,f4⟩:=rules_val hR n _ (by omega) h (Zed g1 a2);refine⟨a3,fun r hr=>?_⟩;rcases List.mem_cons.1 hr with rfl | hr
   ·exact⟨⟨by dsimp only;omega,by dsimp only;omega⟩,f1,fun hh=>f2 (fun h5=>hh (by dsimp only;omega)),f3⟩
   ·exact f4 r hr
theorem body_val(hR:Zcv L){n:Nat}{st:St}(hn:4*Zx L st+2≤n)(h:(Zbn nk L n st).2.good=true)(ha:AtD 0 st):AtD 0 (Zbn nk L n st).2∧∀ r ∈ (Zbn nk L n st).1,VRu r:=by
 unfold Zbn at h ⊢;dsimp only at h ⊢;have r1:=Xx L Yu st;have g1:=Ur h;obtain⟨a1,f1⟩:=rules_val hR n _ (by omega) g1 (Zed (Zla g1) ha);exact⟨Zed h a1,f1⟩
theorem card_val(hR:Zcv L){n:Nat}{l c:Int}{st:St}(hn:4*Zx L st+2≤n)(h:(Zft nk L n l c st).2.good=true)(ha:AtD 0 st):AtD 0 (Zft nk L n l c st).2∧VCa (Zft nk L n l c st).1:=by
 unfold Zft at h ⊢;dsimp only at h ⊢;have r1:=Zbi L st;have r2:=Xx L Zhx (Wp L st);have r3:=Zjm L (Zz L Zhx (Wp L st));have r4:=Xx L Zhf (Zbt L (Zz L Zhx (Wp L st)));have r5:=Zio L (Zz L Zhf (Zbt L (Zz L Zhx (Wp L st))));have g1:=good_body h;have g2:=good_sign g1;have g3:=Ur g2;have g4:=Zlz g3;have g5:=Ur g4;obtain⟨a1,f1⟩:=Zoo hR g5 ha;obtain⟨a2,f2⟩:=int_at hR g3 (Zed g4 a1);obtain⟨a3,f3⟩:=sign_at hR g1 (Zed g2 a2);obtain⟨a4,f4⟩:=body_val hR (by omega) h a3;exact⟨a4,f1,f2,f3,f4⟩
theorem place_val(hR:Zcv L){n:Nat}{l c:Int}{st:St}(hn:4*Zx L st+2≤n)(h:(Vj nk L n l c st).2.good=true)(ha:AtD 0 st):AtD 0 (Vj nk L n l c st).2∧VPl (Vj nk L n l c st).1:=by
 unfold Vj at h ⊢;dsimp only at h ⊢;have r1:=Zbi L st;obtain⟨a1,f1⟩:=Zoo hR (good_body h) ha;obtain⟨a4,f4⟩:=body_val hR (by omega) h a1;exact⟨a4,f1,f4⟩
theorem file_val(hR:Zcv L):∀(n:Nat)(st:St),4*Zx L st+1≤n→(Wk nk L n st).2.good=true→AtD 0 st→AtD 0 (Wk nk L n st).2∧VFi (Wk nk L n st).1
 |0,st,h,_,_=>by omega
 |n+1,st,hn,h,ha=>by
  rw[Wk]at h ⊢;by_cases h0:Zk L Xp st=0
  ·rw[if_pos h0];exact⟨ha,(fun c hc=>by cases hc),fun p hp=>by cases hp⟩
  ·rw[if_neg h0]at h ⊢
   have r1:=Vt L h0;by_cases h1:Zk L Xp st=1
   ·rw[if_pos h1]at h ⊢
    dsimp only at h ⊢;have r2:=rem_card L nk n (st.tok L).line (st.tok L).col (Ye L Xp st);obtain⟨a1,f1⟩:=card_val hR (by omega) (good_file h) (Zdf ha);obtain⟨a2,f2,f3⟩:=file_val hR n _ (by omega) h a1;refine⟨a2,fun c hc=>?_,f3⟩;rcases List.mem_cons.1 hc with rfl | hc
    ·exact f1
    ·exact f2 c hc
   ·rw[if_neg h1]at h ⊢
    dsimp only at h ⊢;have r2:=Zmu L nk n (st.tok L).line (st.tok L).col (Ye L Xp st);obtain⟨a1,f1⟩:=place_val hR (by omega) (good_file h) (Zdf ha);obtain⟨a2,f2,f3⟩:=file_val hR n _ (by omega) h a1;refine⟨a2,f2,fun p hp=>?_⟩;rcases List.mem_cons.1 hp with rfl | hp
    ·exact f1
    ·exact f3 p hp
end
theorem good_row{v:TokV}(h:GoodT v):(v.k=2→0≤v.n∧v.n≤99)∧(v.k=3→Zhv v.t):=by
 obtain⟨l,g1,g2,g3,g4,g5,g6,g7⟩:=h;refine⟨fun _=>by rw[g5];exact numOf_bd l,fun hk=>?_⟩;have hk3:(Yh l).1=3:=by rw[←g2];exact hk
 cases l with
 |nil=>simp[Yh]at g1
 |cons c r=>
  have key:(Yh (c::r)).1=3→c=34∧tw (Xh 34) r<r.length∧Zce (strOfNums (r.take (tw (Xh 34) r)))=true∧Yh (c::r)=(3,1,tw (Xh 34) r+1,tw (Xh 34) r+2):=by
   refine Zaj c r (fun x=>x.1=3→c=34∧tw (Xh 34) r<r.length∧Zce (strOfNums (r.take (tw (Xh 34) r)))=true∧x=(3,1,tw (Xh 34) r+1,tw (Xh 34) r+2)) ?_ ?_ ?_ ?_ ?_ ?_ ?_ ?_
   ·intro _ hh;simp at hh
   ·intro _ _ _ hh;simp at hh
   ·intro _ _ hh;simp at hh
   ·intro _ hh;simp at hh
   ·intro h1 h2 h3 _;exact⟨h1,h2,h3,rfl⟩
   ·intro _ _ hh;simp at hh
   ·intro _ _ _ _ _ hh;simp at hh
   ·intro _ _ _ _ _ hh;simp at hh
  obtain⟨k1,k2,k3,k4⟩:=key hk3;rw[k4]at g3 g4;have e1:((c::r).take (tw (Xh 34) r+1)).drop 1=r.take (tw (Xh 34) r):=by rw[List.take_succ_cons,List.drop_succ_cons,List.drop_zero]
  dsimp only at g3 g4;rw[e1]at g4;unfold txt at g3;rw[if_pos hk,List.take_succ_cons,k1]at g3;have g3':=(List.cons.inj g3).2
  have e2:bL v.t=r.take (tw (Xh 34) r):=by
   have hlen:=congrArg List.length g3';rw[List.length_append,List.length_take,List.length_cons,List.length_nil]at hlen;have hz:(bL v.t).length=tw (Xh 34) r:=by omega
   have:=congrArg (List.take (tw (Xh 34) r)) g3';rw[List.take_append_of_le_length (by omega),List.take_of_length_le (by omega),List.take_take,Nat.min_eq_left (by omega)]at this;exact this
  refine⟨by rw[g4];exact k3,fun x hx=>?_⟩;have hb:=bL_bd v.t x hx;rw[e2]at hx;have:=Zoh (Xh 34) r x hx;rw[Zbk]at this;exact⟨hb.1,hb.2,this⟩
theorem Sh.row{L:List TokV}(h:Sh L):∀ a,((Yb L a).k=2→0≤(Yb L a).n∧(Yb L a).n≤99)∧((Yb L a).k=3→Zhv (Yb L a).t):=by
 have z:∀ v:TokV,v.k=0→(v.k=2→0≤v.n∧v.n≤99)∧(v.k=3→Zhv v.t):=fun v hv=>⟨fun h=>by omega,fun h=>by omega⟩
 induction h with
 |fin v hk ht hn=>
  intro a;cases a with
  |zero=>rw[Zfg];exact z v hk
  |succ a=>exact z _ (by simp[Yb,Zhz])
 |tok v L hg hL ih=>
  intro a;cases a with
  |zero=>rw[Zfg];exact good_row hg
  |succ a=>rw[Zju];exact ih a
theorem Sh.ok{L:List TokV}(h:Sh L):Zcv L:=⟨fun a=>(h.row a).1,fun a=>(h.row a).2⟩
theorem text_ok(s:ByteArray)(hs:s.size≤65536):(∃ F,Je s=.bad F∧Wh s=[])∨(Je s=.ok 0 0∧Zcv (Wh s)):=by
 obtain⟨L,E,p,hc⟩:∃ L E p,Jp s 0 []=(L,E,p):=⟨_,_,_,rfl⟩
 have hf:=Zji s s.size 0 [] L E p (by omega) (by omega) (Bd.zero s) hc;unfold Je Wh;rw[Zgi s hs hc];by_cases hE:E=0
 ·obtain⟨L2,h2,h3⟩:=hf.1 hE
  have e:L=L2:=h2;subst e;right;rw[if_pos hE];exact⟨rfl,h3.sh.ok⟩
 ·left
  rw[if_neg hE];exact⟨_,if_neg hE,rfl⟩
theorem over_good{L:List TokV}{st:St}(h:(Xq L st).good=true):st.good=true:=by
 cases st with
 |ok a d=>rfl
 |bad F=>exact h
theorem file_off(nk:Int)(L:List TokV)(n:Nat)(F:Int×Nat×Nat):Wk nk L (n+1) (.bad F)=(⟨[],[]⟩,.bad F):=by
 rw[Wk];rfl
theorem parse_val(nk:Int)(s:ByteArray)(hs:s.size≤65536):VFi (Zcn nk s).1:=by
 unfold Zcn;dsimp only;by_cases hg:(Xq (Wh s) (Zki nk s).2).good=true
 ·rw[if_pos hg]
  have h2:=over_good hg;unfold Zki at h2 ⊢;rcases text_ok s hs with⟨F,e1,e2⟩ | ⟨e1,hr⟩
  ·rw[e1,show Zfi s=(Zfi s - 1)+1 from by unfold Zfi;omega,file_off]at h2
   cases h2
  ·exact(file_val hr (Zfi s) (Je s) (by have:=Zli s;unfold Zfi;omega) h2 ⟨0,e1⟩).2
 ·rw[if_neg hg]
  exact⟨(fun c hc=>by cases hc),fun p hp=>by cases hp⟩
end Go.Proofs.YtbdecchpleiepaaGreat
