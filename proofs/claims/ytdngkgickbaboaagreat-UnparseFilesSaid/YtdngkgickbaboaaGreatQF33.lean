/- Parts of the proof. No conditions but those that each names. -/
import Derived.Test.YtdngkgickbaboaaGreatQF29
import Derived.Test.YtdngkgickbaboaaGreatQF30
import Derived.Test.YtdngkgickbaboaaGreatQF32
set_option maxRecDepth 20000
set_option maxHeartbeats 12800000
set_option linter.unusedVariables false
set_option linter.unusedSimpArgs false
namespace Go.Proofs.YtdngkgickbaboaaGreat
open Go.Value renaming int→I,slice→Λ,string→Ψ,oneCell'→Γ
open Go.IntKind renaming i64→J
open _root_.Go.Proofs.Tryz renaming prog→Φ
open Nat renaming le_refl→Θ
open Nat renaming le_trans→Ξ
open And renaming intro→ζ
open Go.Ending renaming returned→η
open Go.ChangeShapes Go.WideShapes Go.ChangeAt Go.RowKit
theorem Znb:(Tryz.prog.info? 69).map (fun i=>i.zero.map Value.cells)=some (some ([I J 0,Ψ ⟨#[]⟩,I J 0,I J 0,I J 0]:List Value).toArray):=by kernel_rfl
theorem Zel:(Tryz.prog.info? 69).map (·.size)=some 5:=by kernel_rfl
theorem Env.join{w x:World}{bs cs:List Bk}{rs:List Rw}{ts:List (Ds×List Value)}(h:Env w (bs++cs) rs ts x)(i j:Nat){d1 d2:Ds}{l u:List Value}(hi:ts[i]?=some (d1,l))(hj:ts[j]?=some (d2,u)):Env w bs rs [(d1.app d2,l++u)] x:=by
 have h':=h.less (bs:=bs) (cs:=cs) (ts:=[]) (us:=ts);exact h'.addT (Zt.app ((h.deep _ (List.mem_of_getElem? hj)).mono fun k _ hn=>Zgv hn) ((h.deep _ (List.mem_of_getElem? hi)).mono fun k _ hn=>Zgv hn))
theorem Env.row0{w x:World}{bs:List Bk}{ts:List (Ds×List Value)}(h:Env w bs [] ts x)(e:TypeId)(sz:Nat):Env w bs [⟨Λ none 0 0,e,sz,0,[]⟩] (ts++[(.nil,[])]) x:=(h.row1 e sz).addT rfl
theorem qact(n:Nat)(ih:Zix n):QActOK (n+1):=by
 intro w r K L st vs k l c ho hp h1 h15 hn hLn;have hpl:¬ k=10→¬ k=11→Zcg 3 L (n+1) (AH.zero k l c) k st=⟨(Wq 3 L n (AH.zero k l c) k st).1,.nil,.nil,Yb L Xj (Wq 3 L n (AH.zero k l c) k st).2⟩:=fun a b=>by rw[Zcg,if_neg a,if_neg b]
 have hc:k=1∨k=2∨k=3∨k=4∨k=5∨k=6∨k=7∨k=8∨k=9∨k=10∨k=11∨k=12∨k=13∨k=14∨k=15:=by omega
 rcases hc with rfl | rfl | rfl | rfl | rfl | rfl | rfl | rfl | rfl | rfl | rfl | rfl | rfl | rfl | rfl
 ·rw[hpl (by decide) (by decide)]
  exact qplain1 w r K L st vs l c n ho hp (by omega) hLn
 ·rw[hpl (by decide) (by decide)]
  exact qplain2 w r K L st vs l c n ho hp (by omega) hLn
 ·rw[hpl (by decide) (by decide)]
  exact qplain3 w r K L st vs l c n ho hp (by omega) hLn
 ·rw[hpl (by decide) (by decide)]
  exact qplain4 w r K L st vs l c n ho hp (by omega) hLn
 ·rw[hpl (by decide) (by decide)]
  exact qplain5 w r K L st vs l c n ho hp (by omega) hLn
 ·rw[hpl (by decide) (by decide)]
  exact qplain6 w r K L st vs l c n ho hp (by omega) hLn
 ·rw[hpl (by decide) (by decide)]
  exact qplain7 w r K L st vs l c n ho hp (by omega) hLn
 ·rw[hpl (by decide) (by decide)]
  exact qplain8 w r K L st vs l c n ho hp (by omega) hLn
 ·rw[hpl (by decide) (by decide)]
  exact qplain9 w r K L st vs l c n ho hp (by omega) hLn
 ·have e1:Zcg 3 L (n+1) (AH.zero ((10:Nat):Int) l c) 10 st=if isS L Jf (Yu 3 L n (Jv 3 L n (AH.zero ((10:Nat):Int) l c) st).2).2=true then
    ⟨(Jv 3 L n (AH.zero ((10:Nat):Int) l c) st).1,(Yu 3 L n (Jv 3 L n (AH.zero ((10:Nat):Int) l c) st).2).1,(Yu 3 L n (Wf L Jf (Yu 3 L n (Jv 3 L n (AH.zero ((10:Nat):Int) l c) st).2).2)).1,(Yu 3 L n (Wf L Jf (Yu 3 L n (Jv 3 L n (AH.zero ((10:Nat):Int) l c) st).2).2)).2⟩
   else⟨(Jv 3 L n (AH.zero ((10:Nat):Int) l c) st).1,(Yu 3 L n (Jv 3 L n (AH.zero ((10:Nat):Int) l c) st).2).1,.nil,(Yu 3 L n (Jv 3 L n (AH.zero ((10:Nat):Int) l c) st).2).2⟩:=by rw[Zcg,if_pos rfl]
  rw[e1];by_cases hb:isS L Jf (Yu 3 L n (Jv 3 L n (AH.zero ((10:Nat):Int) l c) st).2).2=true
  ·rw[if_pos hb]
   exact qif_else w r K L st vs l c n ih ho hp (by omega) hLn hb
  ·rw[if_neg hb]
   exact qif w r K L st vs l c n ih ho hp (by omega) hLn hb
 ·exact qeach w r K L st vs l c n ih ho hp (by omega) hLn
 ·rw[hpl (by decide) (by decide)]
  exact qplain12 w r K L st vs l c n ho hp (by omega) hLn
 ·rw[hpl (by decide) (by decide)]
  exact qplain13 w r K L st vs l c n ho hp (by omega) hLn
 ·rw[hpl (by decide) (by decide)]
  exact qplain14 w r K L st vs l c n ho hp (by omega) hLn
 ·rw[hpl (by decide) (by decide)]
  exact qplain15 w r K L st vs l c n ho hp (by omega) hLn
theorem qacts(n:Nat)(ih:∀ m,m+1≤n→QActOK m):QActsOK n:=by
 intro w r K L st vs ho hp hn hLn;have T0:=Hh (Env.start w);have HN:=Hh (ζ hn hLn);clear hn hLn;go_enter Tryz.func53,Tryz.ntmps53;go_wp2_with(first
 |((with_reducible refine Zd 1 ?_);refine Zk T0.out 66 _ (vs) rfl rfl rfl ?_;intro w1 g0 t1
   have T1:=Hh (t1);clear t1)
 |((with_reducible refine Zd 2 ?_);refine Zc T1.out 66 _ rfl rfl z_P ?_;intro w2 g1 t2
   have T2:Hid (Env w [(g0,66,vs),(g1,66,[Λ none 0 0,I J 0,I J 0,I J 0,I J 0,I J 0])] [] [] w2):=Hh (t2);clear t2))
 go_loopw [4] (fun v wr=>∃(m:Nat)(acc:Acs)(xs:List Value)(s:St)(us:List Value),Env w [(g0,66,us),(g1,66,[Λ none 0 0,I J 0,I J 0,I J 0,I J 0,I J 0])] [⟨v,58,53,acc.len,xs⟩] [(acc.ds,xs)] wr∧RPv r K L s us∧8*Zw L s+8≤m∧m≤n∧acc.len+Zw L s≤Zw L st∧Ww 3 L n st=(acc.app (Ww 3 L m s).1,(Ww 3 L m s).2)∧xs.length=acc.len*53) (fun _ wr=>remB g0 L.length wr)
 case atStart=>exact⟨n,.nil,[],st,vs,T2.out.row0 58 53,hp,HN.out.1,Θ _,by simp[Acs.len],rfl,rfl⟩
 case round=>
  obtain⟨m,acc,xs,s,us,hT,hs,hm,hmn,hacc,heq,_⟩:=hrel;obtain⟨m,rfl⟩:∃ m',m=m'+1:=⟨m - 1,by omega⟩
  obtain⟨A,cp,rfl,_,_,_⟩:=Xq (show World.ownsRow _ w.heap.size 58 53 _ acc.len xs from hT.row _ (List.mem_singleton.2 rfl));have hrem:=Zam hs (hT.get 0 rfl);clear hp;cases s with
  |bad F=>
    have HP:=Hh hs;obtain⟨SA,nb,kb,a,d,rfl,hd,hF⟩:=hs.bad;obtain⟨f0,f1,f2⟩:=F;have z0:(f0 == 0)=false:=by rw[beq_eq_false_iff_ne];exact hF
    obtain⟨c0,c1,c2,c3,c4,c5⟩:=Wk (hT.get 0 rfl);have T20:=Hh hT;have HE:=Hh heq;clear hT hs hm hmn hacc heq hrem hF;go_wp2_with(first
 |((with_reducible refine Zd 43 ?_);refine Zb 66 _ 66 g0 _ (T20.out.get 0 rfl) Zo Ye rfl rfl rfl ?_)
 |((with_reducible refine Zi 2 43 ?_);refine Za 66 _ _ 66 g1 _ ([Λ SA nb kb,I J (a:Int),I J (d:Int),I J f0,I J (f1:Int),I J (f2:Int)]) (T20.out.get 1 rfl) rfl Ye (by simp[Γ]) rfl rfl rfl rfl rfl ?_
   intro w21 p21;have T21:Hid (Env w [(g0,66,[Λ SA nb kb,I J (a:Int),I J (d:Int),I J f0,I J (f1:Int),I J (f2:Int)]),(g1,66,[Λ SA nb kb,I J (a:Int),I J (d:Int),I J f0,I J (f1:Int),I J (f2:Int)])] [⟨Λ A acc.len cp,58,53,acc.len,xs⟩] [(acc.ds,xs)] w21):=Hh (T20.out.put 1 rfl p21)
   clear p21))
    refine Xh 2 66 3 66 _ _ _ rfl (T21.out.get 1 rfl) Zo (Zf HP.out.len) rfl rfl rfl ?_;rw[HE.out,acts_stop 3 L m _ rfl];dsimp only;rw[Acs.app_nil];exact⟨_,_,rfl,HP.out,Zt.rowOf (T21.out.row _ (List.mem_singleton.2 rfl)) (fun k hk=>hk) (T21.out.leaf 0 rfl),T21.out.below⟩
  |ok a d=>
    have HP:=Hh hs;obtain⟨nn,hnn,rfl,ha,hd⟩:=hs.ok;have hrow:=ho (by omega);have HR:=Hh hrow;have HNN:=Hh (ζ hnn ha);obtain⟨c0,c1,c2,c3,c4,c5⟩:=Wk (hT.get 0 rfl);have hle:=Zhk L Xr (.ok a d);have hfr:=Vq (L:=L) (ws:=Xr) (st:=.ok a d);have hfn:=Zah L (ws:=Xr) (st:=.ok a d);have hst:=acts_step 3 L m (.ok a d);have hsp:=acts_stop 3 L m (.ok a d);have hhe:∀ x,Zaf x r K L→Calls Φ 19 #[.agg #[Λ (some ⟨r,0,none⟩) nn K,I J (a:Int),I J (d:Int)],I J 0] x (fun e w'=>e=η (Vt (Zx L a))∧Below x.heap.size x w'):=fun x h=>Zma x r K L nn a d HNN.out.1 h HNN.out.2
    have hmy:∀(x:World)(us:List Value),Zv x r K L→RPv r K L (.ok a d) us→Calls Φ 20 #[.agg us.toArray,Λ (some ⟨x.heap.size,0,none⟩) 15 15] (x.alloc (.cells #[Ψ ⟨#[112,111,119,101,114]⟩,Ψ ⟨#[115,101,116]⟩,Ψ ⟨#[100,101,115,116,114,111,121]⟩,Ψ ⟨#[109,111,118,101]⟩,Ψ ⟨#[114,101,116,117,114,110]⟩,Ψ ⟨#[115,112,97,119,110]⟩,Ψ ⟨#[100,114,97,119]⟩,Ψ ⟨#[100,105,115,99,97,114,100]⟩,Ψ ⟨#[101,110,101,114,103,121]⟩,Ψ ⟨#[105,102]⟩,Ψ ⟨#[101,97,99,104]⟩,Ψ ⟨#[97,117,114,97]⟩,Ψ ⟨#[100,111,117,98,108,101]⟩,Ψ ⟨#[115,104,105,101,108,100]⟩,Ψ ⟨#[98,97,114]⟩] 9)) (PVo x r K L (Yd L Xr (.ok a d)) (I J (Zh L Xr (.ok a d)))):=fun x us h1 h2=>Zno x r K _ L (.ok a d) us Xr 15 15 _ rfl rfl h1 h2 rfl (by decide)
    have htk:St.tok L (.ok a d)=Zx L a:=rfl;rw[htk]at hst;clear htk hs hrow hnn;generalize Zx L a=tv at *;generalize Zh L Xr (.ok a d)=k at *;generalize Yd L Xr (.ok a d)=s1 at *;have T20:=Hh hT;have HE:=Hh heq;have HB:=Hh hrem;have hle15:k≤15:=hle;unfold Vt at hhe;clear hT heq hle hrem;by_cases hk0:k=0
    ·have HS:=Hh (ζ (hsp hk0) (hfn hk0))
     subst hk0;rw[show((0:Nat):Int)=0 from rfl]at hmy;clear hst hsp hfn hfr hm hmn hacc hle15;go_wp2_with(first
 |((with_reducible refine Zd 15 ?_);refine Xx 64 _ 66 g0 0 ([]) ([Λ (some ⟨r,0,none⟩) nn K,I J (a:Int),I J (d:Int)]) ([I J 0,I J 0,I J 0]) (T20.out.get 0 rfl) rfl Zco Vi rfl rfl rfl ?_)
 |(go_at_call 19;refine(hhe _ (HR.out.below T20.out.below)).mono ?_;rintro e w21 ⟨rfl,b21⟩
   have T21:=Hh (T20.out.call b21);clear b21)
 |((with_reducible refine Zd 5 ?_);refine Zc T21.out 69 _ rfl rfl Znb ?_;intro w22 g2 t22
   have T22:=Hh (t22);clear t22)
 |((with_reducible refine Zi 5 16 ?_);refine Za 69 _ _ 69 g2 _ ([I J tv.k,Ψ tv.t,I J tv.n,I J (tv.line:Int),I J (tv.col:Int)]) (T22.out.get 2 rfl) rfl Zel (by simp[Γ]) rfl rfl rfl rfl rfl ?_
   intro w23 p23;have T23:=Hh (T22.out.put 2 rfl p23);clear p23)
 |((with_reducible refine Zd 18 ?_);refine Zb 66 _ 66 g0 _ (T23.out.get 0 rfl) Zo Ye rfl rfl rfl ?_)
 |(go_at_call 20;refine(hmy _ _ (ho.below T23.out.below) HP.out).mono ?_;rintro e w24 ⟨v1,rfl,h1,b24⟩
   have T24:=Hh (T23.out.call b24);clear b24)
 |((with_reducible refine Zd 6 ?_);refine Zc T24.out 66 _ rfl rfl z_P ?_;intro w25 g3 t25
   have T25:=Hh (t25);clear t25)
 |((with_reducible refine Zi 6 21 ?_);refine Za 66 _ _ 66 g3 _ (v1) (T25.out.get 3 rfl) h1.len (Zf h1.len) h1.one rfl rfl rfl rfl rfl ?_
   intro w26 p26;have T26:=Hh (T25.out.put 3 rfl p26);have hli:=T26.out.cell 2 3 rfl rfl;have hco:=T26.out.cell 2 4 rfl rfl;clear p26)
 |((with_reducible refine Zd 25 ?_);refine Zb 66 _ 66 g3 _ (T26.out.get 3 rfl) Zo (Zf h1.len) rfl rfl rfl ?_)
 |((with_reducible refine Zi 2 25 ?_);refine Za 66 _ _ 66 g1 _ (v1) (T26.out.get 1 rfl) h1.len (Zf h1.len) h1.one rfl rfl rfl rfl rfl ?_
   intro w27 p27;have T27:Hid (Env w [(g0,66,[Λ (some ⟨r,0,none⟩) nn K,I J (a:Int),I J (d:Int),I J 0,I J 0,I J 0]),(g1,66,v1),(g2,69,[I J tv.k,Ψ tv.t,I J tv.n,I J (tv.line:Int),I J (tv.col:Int)]),(g3,66,v1)] [⟨Λ A acc.len cp,58,53,acc.len,xs⟩] [(acc.ds,xs)] w27):=Hh (T26.out.put 1 rfl p27)
   clear p27))
     have hs:=HS.out.2;subst hs;refine Xh 2 66 3 66 _ _ _ rfl (T27.out.get 1 rfl) Zo (Zf h1.len) rfl rfl rfl ?_;rw[HE.out,HS.out.1];dsimp only;rw[Acs.app_nil];exact⟨_,_,rfl,h1,Zt.rowOf (T27.out.row _ (List.mem_singleton.2 rfl)) (fun k hk=>hk) (T27.out.leaf 0 rfl),T27.out.below⟩
    ·have hst:=hst hk0
     have hfr:=hfr hk0;have hac:∀(y:World)(us:List Value),Zv y r K L→RPv r K L s1 us→Calls Φ 83 #[.agg us.toArray,.agg (Zcz (k:Int) (tv.line:Int) (tv.col:Int)).toArray] y (PTo y r K L (Zcg 3 L m (AH.zero (k:Int) (tv.line:Int) (tv.col:Int)) k s1).st (Zcg 3 L m (AH.zero (k:Int) (tv.line:Int) (tv.col:Int)) k s1).ds):=fun y us h1 h2=>ih m (by omega) y r K L s1 us k _ _ h1 h2 (by omega) hle15 (by omega) (by have:=HN.out;omega)
     have hrk:=rem_act L 3 m (AH.zero (k:Int) (tv.line:Int) (tv.col:Int)) k s1;generalize Zcg 3 L m (AH.zero (k:Int) (tv.line:Int) (tv.col:Int)) k s1=x at *;have HLn:=Hh (show x.ds.len=53 from AH.dsr_len _ _ _ _ _);have q0:((k:Int) == 0)=false:=by rw[beq_eq_false_iff_ne];omega
     have HS:=Hh hst;have HM:=Hh (show acc.len≤68719476736∧8*Zw L x.st+8≤m∧m≤n∧(acc.len+1)+Zw L x.st≤Zw L st∧Zw L x.st<Zw L (.ok a d) by have:=HN.out;omega);clear hst hsp hfn hfr hm hmn hacc hle15 hrk hk0;go_wp2_with(first
 |((with_reducible refine Zd 15 ?_);refine Xx 64 _ 66 g0 0 ([]) ([Λ (some ⟨r,0,none⟩) nn K,I J (a:Int),I J (d:Int)]) ([I J 0,I J 0,I J 0]) (T20.out.get 0 rfl) rfl Zco Vi rfl rfl rfl ?_)
 |(go_at_call 19;refine(hhe _ (HR.out.below T20.out.below)).mono ?_;rintro e w21 ⟨rfl,b21⟩
   have T21:=Hh (T20.out.call b21);clear b21)
 |((with_reducible refine Zd 5 ?_);refine Zc T21.out 69 _ rfl rfl Znb ?_;intro w22 g2 t22
   have T22:=Hh (t22);clear t22)
 |((with_reducible refine Zi 5 16 ?_);refine Za 69 _ _ 69 g2 _ ([I J tv.k,Ψ tv.t,I J tv.n,I J (tv.line:Int),I J (tv.col:Int)]) (T22.out.get 2 rfl) rfl Zel (by simp[Γ]) rfl rfl rfl rfl rfl ?_
   intro w23 p23;have T23:=Hh (T22.out.put 2 rfl p23);clear p23)
 |((with_reducible refine Zd 18 ?_);refine Zb 66 _ 66 g0 _ (T23.out.get 0 rfl) Zo Ye rfl rfl rfl ?_)
 |(go_at_call 20;refine(hmy _ _ (ho.below T23.out.below) HP.out).mono ?_;rintro e w24 ⟨v1,rfl,h1,b24⟩
   have T24:=Hh (T23.out.call b24);clear b24)
 |((with_reducible refine Zd 6 ?_);refine Zc T24.out 66 _ rfl rfl z_P ?_;intro w25 g3 t25
   have T25:=Hh (t25);clear t25)
 |((with_reducible refine Zi 6 21 ?_);refine Za 66 _ _ 66 g3 _ (v1) (T25.out.get 3 rfl) h1.len (Zf h1.len) h1.one rfl rfl rfl rfl rfl ?_
   intro w26 p26;have T26:=Hh (T25.out.put 3 rfl p26);have hli:=T26.out.cell 2 3 rfl rfl;have hco:=T26.out.cell 2 4 rfl rfl;clear p26)
 |((with_reducible refine Zd 28 ?_);refine Zb 66 _ 66 g3 _ (T26.out.get 3 rfl) Zo (Zf h1.len) rfl rfl rfl ?_)
 |(go_at_call 83;refine(hac _ v1 (ho.below T26.out.below) h1).mono ?_;rintro e w27 ⟨v2,u2,rfl,h2,d2,b27⟩
   have l2:=(d2.len.trans HLn.out)
   have o2:=Hh d2.one;have T27:=Hh (T26.out.tree b27 d2);clear d2;clear b27)
 |((with_reducible refine Zd 8 ?_);refine Zc T27.out 66 _ rfl rfl z_P ?_;intro w28 g4 t28
   have T28:=Hh (t28);clear t28)
 |((with_reducible refine Zd 9 ?_);refine Zc T28.out 58 _ rfl rfl Zfs ?_;intro w29 g5 t29
   have T29:=Hh (t29);clear t29)
 |((with_reducible refine Zi 8 36 ?_);refine Za 66 _ _ 66 g4 _ (v2) (T29.out.get 4 rfl) h2.len (Zf h2.len) h2.one rfl rfl rfl rfl rfl ?_
   intro w30 p30;have T30:=Hh (T29.out.put 4 rfl p30);clear p30)
 |((with_reducible refine Zi 9 37 ?_);refine Za 58 _ _ 58 g5 _ (u2) (T30.out.get 5 rfl) l2 (Xe l2) o2.out rfl rfl rfl rfl rfl ?_
   intro w31 p31;have T31:=Hh (T30.out.put 5 rfl p31);clear p31)
 |((with_reducible refine Zd 39 ?_);refine Zb 58 _ 58 g5 _ (T31.out.get 5 rfl) Wn (Xe l2) rfl rfl rfl ?_)
 |((with_reducible refine Zd 40 ?_);refine Zbo 44 58 _ 40 53 576 zact u2 info_act l2 (by decide) (by decide) und_acts rfl rfl rfl rfl ?_)
 |(at_builtin;refine Wv (.tmp 38) (.tmp 40) 44 58 53 576 zact und_acts info_act rfl (by decide) (by decide) w.heap.size (Λ A acc.len cp) acc.len xs u2 ((T31.out.call (Zj w31 (.cells u2.toArray 58))).row _ (List.mem_singleton.2 rfl)) w31.heap.size (Ze.made _ _ _) l2 o2.out (by have:=HM.out;omega) (T31.out.call (Zj w31 (.cells u2.toArray 58))).below.size rfl rfl rfl rfl ?_
   intro v9 w32 o9 g9 at9;have T32:=Hh ((T31.out.call (Zj w31 (.cells u2.toArray 58))).push o9 g9 at9);clear o9 g9 at9)
 |((with_reducible refine Zd 42 ?_);refine Zb 66 _ 66 g4 _ (T32.out.get 4 rfl) Zo (Zf h2.len) rfl rfl rfl ?_)
 |((with_reducible refine Zi 1 42 ?_);refine Za 66 _ _ 66 g0 _ (v2) (T32.out.get 0 rfl) h2.len (Zf h2.len) h2.one rfl rfl rfl rfl rfl ?_
   intro w33 p33;have T33:Hid (Env w [(g0,66,v2),(g1,66,[Λ none 0 0,I J 0,I J 0,I J 0,I J 0,I J 0]),(g2,69,[I J tv.k,Ψ tv.t,I J tv.n,I J (tv.line:Int),I J (tv.col:Int)]),(g3,66,v1),(g4,66,v2),(g5,58,u2)] [⟨v9,58,53,acc.len+1,xs++u2⟩] [(acc.ds,xs),(x.ds,u2)] w33):=Hh (T32.out.put 0 rfl p33)
   clear p33))
     (try go_simp)
     go_roundw
     case rel=>
      have hl:(acc.app (.cons x.h x.thn x.els .nil)).len=acc.len+1:=by rw[Acs.len_app];rfl
      have hd:(acc.app (.cons x.h x.thn x.els .nil)).ds=acc.ds.app x.ds:=by rw[Acs.ds_app];show acc.ds.app (x.ds.app .nil)=_;rw[Ds.app_nil]
      first
      |refine⟨m,acc.app (.cons x.h x.thn x.els .nil),xs++u2,x.st,v2,?_,h2,?_,?_,?_,?_,?_⟩
      |(repeat apply Exists.intro;refine⟨⟨m,acc.app (.cons x.h x.thn x.els .nil),xs++u2,x.st,v2,?_,h2,?_,?_,?_,?_,?_⟩,rfl⟩)
      ·rw[hl,hd]
       exact T33.out.join (bs:=[(g0,66,v2),(g1,66,[Λ none 0 0,I J 0,I J 0,I J 0,I J 0,I J 0])]) 0 1 rfl rfl
      ·have:=HM.out;omega
      ·have:=HM.out;omega
      ·rw[hl];have:=HM.out;omega
      ·rw[HE.out,HS.out];dsimp only;rw[Acs.app_assoc];rfl
      ·rw[hl,(T33.out.row _ (List.mem_singleton.2 rfl)).1]
     case measure=>
      have h6:=Zam h2 (T33.out.get 0 rfl);have h7:=HB.out;have:=HM.out;rw[h6,h7];omega
theorem qacts_all:∀ n m:Nat,m≤n→QActsOK m∧Zix m∧QActOK m:=by
 intro n;induction n with
 |zero=>
  intro m hm;obtain rfl:m=0:=by omega
  exact⟨fun w r K L st vs _ _ hn _=>absurd hn (by omega),fun w r K L st vs _ _ hn _=>absurd hn (by omega),fun w r K L st vs k l c _ _ _ _ hn _=>absurd hn (by omega)⟩
 |succ n ih=>
  intro m hm;by_cases e:m≤n
  ·exact ih m e
  ·obtain rfl:m=n+1:=by omega
   exact⟨qacts _ fun k hk=>(ih k (by omega)).2.2,qblock n (ih n (Θ _)).1,qact n (ih n (Θ _)).2.1⟩
theorem qActs(w:World)(r K:Nat)(L:List TokV)(st:St)(vs:List Value)(n:Nat)(ho:Zv w r K L)(hp:RPv r K L st vs)(hn:8*Zw L st+8≤n)(hLn:Zw L st≤68719476736) :
 Calls Φ 53 #[.agg vs.toArray] w (PRo w r K L (Ww 3 L n st).2 (Ww 3 L n st).1.len (Ww 3 L n st).1.ds):=(qacts_all n n (Θ _)).1 w r K L st vs ho hp hn hLn
theorem Env.joinF{w x:World}{bs cs:List Bk}{rs:List Rw}{ts:List (Ds×List Value)}(h:Env w (bs++cs) rs ts x)(i j:Nat){d1 d2 d3:Ds}{l u v:List Value}(hi:ts[i]?=some (d1,l))(hj:ts[j]?=some (d2,u))
  (f:Zt (Zmz w bs rs) x d2 u→Zt (Zmz w bs rs) x d3 v):Env w bs rs [(d1.app d3,l++v)] x:=by
 have h':=h.less (bs:=bs) (cs:=cs) (ts:=[]) (us:=ts);exact h'.addT (Zt.app (f ((h.deep _ (List.mem_of_getElem? hj)).mono fun k _ hn=>Zgv hn)) ((h.deep _ (List.mem_of_getElem? hi)).mono fun k _ hn=>Zgv hn))
theorem qrules(n:Nat)(w:World)(r K:Nat)(L:List TokV)(st:St)(vs:List Value)(ho:Zv w r K L)(hp:RPv r K L st vs)(hn:8*Zw L st+9≤n)(hLn:Zw L st≤68719476736) :
  Calls Φ 25 #[.agg vs.toArray] w (PRo w r K L (Vg 3 L n st).2 (Vg 3 L n st).1.length (Zea (Vg 3 L n st).1)):=by
 have T0:=Hh (Env.start w);have HN:=Hh (ζ hn hLn);clear hn hLn;go_enter Tryz.func25,Tryz.ntmps25;go_wp2_with(first
 |((with_reducible refine Zd 1 ?_);refine Zk T0.out 66 _ (vs) rfl rfl rfl ?_;intro w1 g0 t1
   have T1:=Hh (t1);clear t1)
 |((with_reducible refine Zd 2 ?_);refine Zc T1.out 66 _ rfl rfl z_P ?_;intro w2 g1 t2
   have T2:Hid (Env w [(g0,66,vs),(g1,66,[Λ none 0 0,I J 0,I J 0,I J 0,I J 0,I J 0])] [] [] w2):=Hh (t2);clear t2))
 go_loopw [4] (fun v wr=>∃(m:Nat)(acc:List Ru)(xs:List Value)(s:St)(us:List Value),Env w [(g0,66,us),(g1,66,[Λ none 0 0,I J 0,I J 0,I J 0,I J 0,I J 0])] [⟨v,46,5,acc.length,xs⟩] [(Zea acc,xs)] wr∧RPv r K L s us∧8*Zw L s+9≤m∧m≤n∧acc.length+Zw L s≤Zw L st∧Vg 3 L n st=(acc++(Vg 3 L m s).1,(Vg 3 L m s).2)∧xs.length=acc.length*5) (fun _ wr=>remB g0 L.length wr)
 case atStart=>exact⟨n,[],[],st,vs,T2.out.row0 46 5,hp,HN.out.1,Θ _,by simp,by simp,rfl⟩
 case round=>
  obtain⟨m,acc,xs,s,us,hT,hs,hm,hmn,hacc,heq,_⟩:=hrel;obtain⟨m,rfl⟩:∃ m',m=m'+1:=⟨m - 1,by omega⟩
  obtain⟨A,cp,rfl,_,_,_⟩:=Xq (show World.ownsRow _ w.heap.size 46 5 _ acc.length xs from hT.row _ (List.mem_singleton.2 rfl));have hrem:=Zam hs (hT.get 0 rfl);clear hp;cases s with
  |bad F=>
    have HP:=Hh hs;obtain⟨SA,nb,kb,a,d,rfl,hd,hF⟩:=hs.bad;obtain⟨f0,f1,f2⟩:=F;have z0:(f0 == 0)=false:=by rw[beq_eq_false_iff_ne];exact hF
    obtain⟨c0,c1,c2,c3,c4,c5⟩:=Wk (hT.get 0 rfl);have T20:=Hh hT;have HE:=Hh heq;clear hT hs hm hmn hacc heq hrem hF;go_wp2_with(first
 |((with_reducible refine Zd 53 ?_);refine Zb 66 _ 66 g0 _ (T20.out.get 0 rfl) Zo Ye rfl rfl rfl ?_)
 |((with_reducible refine Zi 2 53 ?_);refine Za 66 _ _ 66 g1 _ ([Λ SA nb kb,I J (a:Int),I J (d:Int),I J f0,I J (f1:Int),I J (f2:Int)]) (T20.out.get 1 rfl) rfl Ye (by simp[Γ]) rfl rfl rfl rfl rfl ?_
   intro w21 p21;have T21:Hid (Env w [(g0,66,[Λ SA nb kb,I J (a:Int),I J (d:Int),I J f0,I J (f1:Int),I J (f2:Int)]),(g1,66,[Λ SA nb kb,I J (a:Int),I J (d:Int),I J f0,I J (f1:Int),I J (f2:Int)])] [⟨Λ A acc.length cp,46,5,acc.length,xs⟩] [(Zea acc,xs)] w21):=Hh (T20.out.put 1 rfl p21)
   clear p21))
    refine Xh 2 66 3 66 _ _ _ rfl (T21.out.get 1 rfl) Zo (Zf HP.out.len) rfl rfl rfl ?_;rw[HE.out,rules_stop 3 L m _ rfl];dsimp only;rw[List.append_nil];exact⟨_,_,rfl,HP.out,Zt.rowOf (T21.out.row _ (List.mem_singleton.2 rfl)) (fun k hk=>hk) (T21.out.leaf 0 rfl),T21.out.below⟩
  |ok a d=>
    have HP:=Hh hs;obtain⟨nn,hnn,rfl,ha,hd⟩:=hs.ok;have hrow:=ho (by omega);have HR:=Hh hrow;have HNN:=Hh (ζ hnn ha);obtain⟨c0,c1,c2,c3,c4,c5⟩:=Wk (hT.get 0 rfl);have hfr:=Vq (L:=L) (ws:=Yx) (st:=.ok a d);have hfn:=Zah L (ws:=Yx) (st:=.ok a d);have hst:=rules_step 3 L m (.ok a d);have hsp:=rules_stop 3 L m (.ok a d);have hhe:∀ x,Zaf x r K L→Calls Φ 19 #[.agg #[Λ (some ⟨r,0,none⟩) nn K,I J (a:Int),I J (d:Int)],I J 0] x (fun e w'=>e=η (Vt (Zx L a))∧Below x.heap.size x w'):=fun x h=>Zma x r K L nn a d HNN.out.1 h HNN.out.2
    have hmy:∀(x:World)(us:List Value),Zv x r K L→RPv r K L (.ok a d) us→Calls Φ 20 #[.agg us.toArray,Λ (some ⟨x.heap.size,0,none⟩) 6 6] (x.alloc (.cells #[Ψ ⟨#[114,101,118,101,97,108]⟩,Ψ ⟨#[100,101,97,116,104]⟩,Ψ ⟨#[109,111,118,101,100]⟩,Ψ ⟨#[101,110,100]⟩,Ψ ⟨#[97,108,119,97,121,115]⟩,Ψ ⟨#[101,110,116,101,114]⟩] 9)) (PVo x r K L (Yd L Yx (.ok a d)) (I J (Zh L Yx (.ok a d)))):=fun x us h1 h2=>Zno x r K _ L (.ok a d) us Yx 6 6 _ rfl rfl h1 h2 rfl (by decide)
    have htk:St.tok L (.ok a d)=Zx L a:=rfl;rw[htk]at hst;clear htk hs hrow hnn;generalize Zx L a=tv at *;generalize Zh L Yx (.ok a d)=k at *;generalize Yd L Yx (.ok a d)=s1 at *;have T20:=Hh hT;have HE:=Hh heq;have HB:=Hh hrem;unfold Vt at hhe;clear hT heq hrem;by_cases hk0:k=0
    ·have HS:=Hh (ζ (hsp hk0) (hfn hk0))
     subst hk0;rw[show((0:Nat):Int)=0 from rfl]at hmy;clear hst hsp hfn hfr hm hmn hacc;go_wp2_with(first
 |((with_reducible refine Zd 14 ?_);refine Xx 64 _ 66 g0 0 ([]) ([Λ (some ⟨r,0,none⟩) nn K,I J (a:Int),I J (d:Int)]) ([I J 0,I J 0,I J 0]) (T20.out.get 0 rfl) rfl Zco Vi rfl rfl rfl ?_)
 |(go_at_call 19;refine(hhe _ (HR.out.below T20.out.below)).mono ?_;rintro e w21 ⟨rfl,b21⟩
   have T21:=Hh (T20.out.call b21);clear b21)
 |((with_reducible refine Zd 5 ?_);refine Zc T21.out 69 _ rfl rfl Znb ?_;intro w22 g2 t22
   have T22:=Hh (t22);clear t22)
 |((with_reducible refine Zi 5 15 ?_);refine Za 69 _ _ 69 g2 _ ([I J tv.k,Ψ tv.t,I J tv.n,I J (tv.line:Int),I J (tv.col:Int)]) (T22.out.get 2 rfl) rfl Zel (by simp[Γ]) rfl rfl rfl rfl rfl ?_
   intro w23 p23;have T23:=Hh (T22.out.put 2 rfl p23);clear p23)
 |((with_reducible refine Zd 17 ?_);refine Zb 66 _ 66 g0 _ (T23.out.get 0 rfl) Zo Ye rfl rfl rfl ?_)
 |(go_at_call 20;refine(hmy _ _ (ho.below T23.out.below) HP.out).mono ?_;rintro e w24 ⟨v1,rfl,h1,b24⟩
   have T24:=Hh (T23.out.call b24);clear b24)
 |((with_reducible refine Zd 6 ?_);refine Zc T24.out 66 _ rfl rfl z_P ?_;intro w25 g3 t25
   have T25:=Hh (t25);clear t25)
 |((with_reducible refine Zi 6 20 ?_);refine Za 66 _ _ 66 g3 _ (v1) (T25.out.get 3 rfl) h1.len (Zf h1.len) h1.one rfl rfl rfl rfl rfl ?_
   intro w26 p26;have T26:=Hh (T25.out.put 3 rfl p26);have hli:=T26.out.cell 2 3 rfl rfl;have hco:=T26.out.cell 2 4 rfl rfl;clear p26)
 |((with_reducible refine Zd 24 ?_);refine Zb 66 _ 66 g3 _ (T26.out.get 3 rfl) Zo (Zf h1.len) rfl rfl rfl ?_)
 |((with_reducible refine Zi 2 24 ?_);refine Za 66 _ _ 66 g1 _ (v1) (T26.out.get 1 rfl) h1.len (Zf h1.len) h1.one rfl rfl rfl rfl rfl ?_
   intro w27 p27;have T27:Hid (Env w [(g0,66,[Λ (some ⟨r,0,none⟩) nn K,I J (a:Int),I J (d:Int),I J 0,I J 0,I J 0]),(g1,66,v1),(g2,69,[I J tv.k,Ψ tv.t,I J tv.n,I J (tv.line:Int),I J (tv.col:Int)]),(g3,66,v1)] [⟨Λ A acc.length cp,46,5,acc.length,xs⟩] [(Zea acc,xs)] w27):=Hh (T26.out.put 1 rfl p27)
   clear p27))
     have hs:=HS.out.2;subst hs;refine Xh 2 66 3 66 _ _ _ rfl (T27.out.get 1 rfl) Zo (Zf h1.len) rfl rfl rfl ?_;rw[HE.out,HS.out.1];dsimp only;rw[List.append_nil];exact⟨_,_,rfl,h1,Zt.rowOf (T27.out.row _ (List.mem_singleton.2 rfl)) (fun k hk=>hk) (T27.out.leaf 0 rfl),T27.out.below⟩
    ·have hst:=hst hk0
     have hfr:=hfr hk0;have q0:((k:Int) == 0)=false:=by rw[beq_eq_false_iff_ne];omega
     have hrs:=Zqe L k s1;have hrw:=We L Yv (Zeh L k s1);have hj1:∀(x:World)(us:List Value),Zv x r K L→RPv r K L (Zeh L k s1) us→Calls Φ 23 #[.agg us.toArray,Ψ ⟨#[123]⟩] x (PPo x r K L (Yb L Yv (Zeh L k s1))):=fun x us h1 h2=>Zan x r K L _ us Yv h1 h2
     have hac:∀(x:World)(us:List Value),Zv x r K L→RPv r K L (Yb L Yv (Zeh L k s1)) us→Calls Φ 53 #[.agg us.toArray] x (PRo x r K L (Ww 3 L m (Yb L Yv (Zeh L k s1))).2 (Ww 3 L m (Yb L Yv (Zeh L k s1))).1.len (Ww 3 L m (Yb L Yv (Zeh L k s1))).1.ds):=fun x us h1 h2=>qActs x r K L _ us m h1 h2 (by omega) (by have:=HN.out;omega)
     have hra:=Znl L 3 m (Yb L Yv (Zeh L k s1));generalize Ww 3 L m (Yb L Yv (Zeh L k s1))=ac at *;generalize Yb L Yv (Zeh L k s1)=s3 at *;have hj2:∀(x:World)(us:List Value),Zv x r K L→RPv r K L ac.2 us→Calls Φ 23 #[.agg us.toArray,Ψ ⟨#[125]⟩] x (PPo x r K L (Yb L Xi ac.2)):=fun x us h1 h2=>Zan x r K L _ us Xi h1 h2
     have hru:=We L Xi ac.2;generalize Yb L Xi ac.2=s5 at *;have HS:=Hh hst;have HM:=Hh (show acc.length≤68719476736∧8*Zw L s5+9≤m∧m≤n∧(acc.length+1)+Zw L s5≤Zw L st∧Zw L s5<Zw L (.ok a d) by have:=HN.out;omega);clear hst hsp hfn hfr hm hmn hacc hrs hrw hra hru hk0;by_cases h5:k=5
     ·subst h5
      have hnu:∀(x:World)(us:List Value),Zv x r K L→RPv r K L s1 us→Calls Φ 22 #[.agg us.toArray] x (PVo x r K L (Zeh L 5 s1) (I J (Zoi L 5 s1))):=fun x us h1 h2=>Zqh x r K L s1 us h1 h2
      generalize Zoi L 5 s1=sn at *;rw[show((5:Nat):Int)=5 from rfl]at hmy;go_wp2_with(first
 |((with_reducible refine Zd 14 ?_);refine Xx 64 _ 66 g0 0 ([]) ([Λ (some ⟨r,0,none⟩) nn K,I J (a:Int),I J (d:Int)]) ([I J 0,I J 0,I J 0]) (T20.out.get 0 rfl) rfl Zco Vi rfl rfl rfl ?_)
 |(go_at_call 19;refine(hhe _ (HR.out.below T20.out.below)).mono ?_;rintro e w21 ⟨rfl,b21⟩
   have T21:=Hh (T20.out.call b21);clear b21)
 |((with_reducible refine Zd 5 ?_);refine Zc T21.out 69 _ rfl rfl Znb ?_;intro w22 g2 t22
   have T22:=Hh (t22);clear t22)
 |((with_reducible refine Zi 5 15 ?_);refine Za 69 _ _ 69 g2 _ ([I J tv.k,Ψ tv.t,I J tv.n,I J (tv.line:Int),I J (tv.col:Int)]) (T22.out.get 2 rfl) rfl Zel (by simp[Γ]) rfl rfl rfl rfl rfl ?_
   intro w23 p23;have T23:=Hh (T22.out.put 2 rfl p23);clear p23)
 |((with_reducible refine Zd 17 ?_);refine Zb 66 _ 66 g0 _ (T23.out.get 0 rfl) Zo Ye rfl rfl rfl ?_)
 |(go_at_call 20;refine(hmy _ _ (ho.below T23.out.below) HP.out).mono ?_;rintro e w24 ⟨v1,rfl,h1,b24⟩
   have T24:=Hh (T23.out.call b24);clear b24)
 |((with_reducible refine Zd 6 ?_);refine Zc T24.out 66 _ rfl rfl z_P ?_;intro w25 g3 t25
   have T25:=Hh (t25);clear t25)
 |((with_reducible refine Zi 6 20 ?_);refine Za 66 _ _ 66 g3 _ (v1) (T25.out.get 3 rfl) h1.len (Zf h1.len) h1.one rfl rfl rfl rfl rfl ?_
   intro w26 p26;have T26:=Hh (T25.out.put 3 rfl p26);have hli:=T26.out.cell 2 3 rfl rfl;have hco:=T26.out.cell 2 4 rfl rfl;clear p26)
 |((with_reducible refine Zd 8 ?_);refine Zc T26.out 46 _ rfl rfl z_ru ?_;intro w27 g4 t27
   have T27:=Hh (t27);clear t27)
 |((with_reducible refine Zi 8 31 ?_);refine Za 46 _ _ 46 g4 _ ([I J 5,I J 0,I J (tv.line:Int),I J (tv.col:Int),Λ none 0 0]) (T27.out.get 4 rfl) rfl Zqb (by simp[Γ]) rfl rfl rfl rfl rfl ?_
   intro w28 p28;have T28:=Hh (T27.out.put 4 rfl p28);clear p28)
 |((with_reducible refine Zd 35 ?_);refine Zb 66 _ 66 g3 _ (T28.out.get 3 rfl) Zo (Zf h1.len) rfl rfl rfl ?_)
 |(go_at_call 22;refine(hnu _ v1 (ho.below T28.out.below) h1).mono ?_;rintro e w29 ⟨v2,rfl,h2,b29⟩
   have T29:=Hh (T28.out.call b29);clear b29)
 |((with_reducible refine Zi 6 37 ?_);refine Za 66 _ _ 66 g3 _ (v2) (T29.out.get 3 rfl) (h2.len.trans h1.len.symm) (Zf h2.len) h2.one rfl rfl rfl rfl rfl ?_
   intro w30 p30;have T30:=Hh (T29.out.put 3 rfl p30);clear p30)
 |((with_reducible refine Zi 39 38 ?_);refine Zm 3 _ _ 46 g4 1 [I J 5] (I J 0) (I J sn) [I J (tv.line:Int),I J (tv.col:Int),Λ none 0 0] (T30.out.get 4 rfl) rfl Yk rfl rfl rfl rfl rfl rfl ?_
   intro w31 p31;have T31:=Hh (T30.out.put 4 rfl p31);clear p31)
 |((with_reducible refine Zd 41 ?_);refine Zb 66 _ 66 g3 _ (T31.out.get 3 rfl) Zo (Zf h2.len) rfl rfl rfl ?_)
 |(go_at_call 23;(with_reducible refine(hj1 _ v2 (ho.below T31.out.below) h2).mono ?_);rintro e w32 ⟨v3,rfl,h3,b32⟩
   have T32:=Hh (T31.out.call b32);clear b32)
 |(go_at_call 53;refine(hac _ v3 (ho.below T32.out.below) h3).mono ?_;rintro e w33 ⟨v4,f4,rfl,h4,d4,b33⟩
   obtain⟨A5,c5,rfl⟩:=d4.slice;have T33:=Hh (T32.out.tree b33 d4);clear d4;clear b33)
 |((with_reducible refine Zi 6 44 ?_);refine Za 66 _ _ 66 g3 _ (v4) (T33.out.get 3 rfl) (h4.len.trans h2.len.symm) (Zf h4.len) h4.one rfl rfl rfl rfl rfl ?_
   intro w34 p34;have T34:=Hh (T33.out.put 3 rfl p34);clear p34)
 |((with_reducible refine Zi 46 45 ?_);refine Zm 44 _ _ 46 g4 4 [I J 5,I J sn,I J (tv.line:Int),I J (tv.col:Int)] (Λ none 0 0) (Λ A5 ac.1.len c5) [] (T34.out.get 4 rfl) rfl Zgs rfl rfl rfl rfl rfl rfl ?_
   intro w35 p35;have T35:=Hh (T34.out.put 4 rfl p35);clear p35)
 |((with_reducible refine Zd 47 ?_);refine Zb 66 _ 66 g3 _ (T35.out.get 3 rfl) Zo (Zf h4.len) rfl rfl rfl ?_)
 |(go_at_call 23;(with_reducible refine(hj2 _ v4 (ho.below T35.out.below) h4).mono ?_);rintro e w36 ⟨v6,rfl,h6,b36⟩
   have T36:=Hh (T35.out.call b36);clear b36)
 |((with_reducible refine Zi 1 48 ?_);refine Za 66 _ _ 66 g0 _ (v6) (T36.out.get 0 rfl) h6.len (Zf h6.len) h6.one rfl rfl rfl rfl rfl ?_
   intro w37 p37;have T37:=Hh (T36.out.put 0 rfl p37);clear p37)
 |((with_reducible refine Zd 50 ?_);refine Zb 46 _ 46 g4 _ (T37.out.get 4 rfl) row_ru Zqb rfl rfl rfl ?_)
 |((with_reducible refine Zd 51 ?_);refine Zbo 33 46 _ 51 5 56 _ [I J 5,I J sn,I J (tv.line:Int),I J (tv.col:Int),Λ A5 ac.1.len c5] Zqo rfl (by decide) (by decide) Zpz rfl rfl rfl rfl ?_)
 |(at_builtin;refine Wv (.tmp 49) (.tmp 51) 33 46 5 56 _ Zpz Zqo rfl (by decide) (by decide) w.heap.size (Λ A acc.length cp) acc.length xs [I J 5,I J sn,I J (tv.line:Int),I J (tv.col:Int),Λ A5 ac.1.len c5] ((T37.out.call (Zj w37 (.cells ([I J 5,I J sn,I J (tv.line:Int),I J (tv.col:Int),Λ A5 ac.1.len c5]:List Value).toArray 46))).row _ (List.mem_singleton.2 rfl)) w37.heap.size (Ze.made _ _ _) rfl (by simp[Γ]) (by have:=HM.out;omega) (T37.out.call (Zj w37 (.cells ([I J 5,I J sn,I J (tv.line:Int),I J (tv.col:Int),Λ A5 ac.1.len c5]:List Value).toArray 46))).below.size rfl rfl rfl rfl ?_
   intro v9 w38 o9 g9 at9;have T38:Hid (Env w [(g0,66,v6),(g1,66,[Λ none 0 0,I J 0,I J 0,I J 0,I J 0,I J 0]),(g2,69,[I J tv.k,Ψ tv.t,I J tv.n,I J (tv.line:Int),I J (tv.col:Int)]),(g3,66,v4),(g4,46,[I J 5,I J sn,I J (tv.line:Int),I J (tv.col:Int),Λ A5 ac.1.len c5])] [⟨v9,46,5,acc.length+1,xs++[I J 5,I J sn,I J (tv.line:Int),I J (tv.col:Int),Λ A5 ac.1.len c5]⟩] [(Zea acc,xs),(.row ac.1.len ac.1.ds .nil,[Λ A5 ac.1.len c5])] w38):=Hh ((T37.out.call (Zj w37 (.cells ([I J 5,I J sn,I J (tv.line:Int),I J (tv.col:Int),Λ A5 ac.1.len c5]:List Value).toArray 46))).push o9 g9 at9)
   clear o9 g9 at9))
      (try go_simp)
      go_roundw
      case rel=>
       first
       |refine⟨m,acc++[⟨5,sn,(tv.line:Int),(tv.col:Int),ac.1⟩],xs++[I J 5,I J sn,I J (tv.line:Int),I J (tv.col:Int),Λ A5 ac.1.len c5],s5,v6,?_,h6,?_,?_,?_,?_,?_⟩
       |(repeat apply Exists.intro;refine⟨⟨m,acc++[⟨5,sn,(tv.line:Int),(tv.col:Int),ac.1⟩],xs++[I J 5,I J sn,I J (tv.line:Int),I J (tv.col:Int),Λ A5 ac.1.len c5],s5,v6,?_,h6,?_,?_,?_,?_,?_⟩,rfl⟩)
       ·rw[List.length_append,Zmm]
        exact T38.out.joinF (bs:=[(g0,66,v6),(g1,66,[Λ none 0 0,I J 0,I J 0,I J 0,I J 0,I J 0])]) 0 1 rfl rfl fun hD=>⟨_,rfl,_,rfl,_,rfl,_,rfl,hD⟩
       ·have:=HM.out;omega
       ·have:=HM.out;omega
       ·rw[List.length_append];simp only[List.length_cons,List.length_nil];have:=HM.out;omega
       ·rw[HE.out,HS.out];simp
       ·exact(T38.out.row _ (List.mem_singleton.2 rfl)).1.trans (by simp)
      case measure=>
       have h7:=Zam h6 (T38.out.get 0 rfl);have h8:=HB.out;have:=HM.out;rw[h7,h8];omega
     ·have e5:((k:Int) == 5)=false:=by rw[beq_eq_false_iff_ne];omega
      have e6:Zeh L k s1=s1:=if_neg h5;have e7:Zoi L k s1=0:=if_neg h5;rw[e6]at hj1;rw[e7]at HS;clear e6 e7 h5;go_wp2_with(first
 |((with_reducible refine Zd 14 ?_);refine Xx 64 _ 66 g0 0 ([]) ([Λ (some ⟨r,0,none⟩) nn K,I J (a:Int),I J (d:Int)]) ([I J 0,I J 0,I J 0]) (T20.out.get 0 rfl) rfl Zco Vi rfl rfl rfl ?_)
 |(go_at_call 19;refine(hhe _ (HR.out.below T20.out.below)).mono ?_;rintro e w21 ⟨rfl,b21⟩
   have T21:=Hh (T20.out.call b21);clear b21)
 |((with_reducible refine Zd 5 ?_);refine Zc T21.out 69 _ rfl rfl Znb ?_;intro w22 g2 t22
   have T22:=Hh (t22);clear t22)
 |((with_reducible refine Zi 5 15 ?_);refine Za 69 _ _ 69 g2 _ ([I J tv.k,Ψ tv.t,I J tv.n,I J (tv.line:Int),I J (tv.col:Int)]) (T22.out.get 2 rfl) rfl Zel (by simp[Γ]) rfl rfl rfl rfl rfl ?_
   intro w23 p23;have T23:=Hh (T22.out.put 2 rfl p23);clear p23)
 |((with_reducible refine Zd 17 ?_);refine Zb 66 _ 66 g0 _ (T23.out.get 0 rfl) Zo Ye rfl rfl rfl ?_)
 |(go_at_call 20;refine(hmy _ _ (ho.below T23.out.below) HP.out).mono ?_;rintro e w24 ⟨v1,rfl,h1,b24⟩
   have T24:=Hh (T23.out.call b24);clear b24)
 |((with_reducible refine Zd 6 ?_);refine Zc T24.out 66 _ rfl rfl z_P ?_;intro w25 g3 t25
   have T25:=Hh (t25);clear t25)
 |((with_reducible refine Zi 6 20 ?_);refine Za 66 _ _ 66 g3 _ (v1) (T25.out.get 3 rfl) h1.len (Zf h1.len) h1.one rfl rfl rfl rfl rfl ?_
   intro w26 p26;have T26:=Hh (T25.out.put 3 rfl p26);have hli:=T26.out.cell 2 3 rfl rfl;have hco:=T26.out.cell 2 4 rfl rfl;clear p26)
 |((with_reducible refine Zd 8 ?_);refine Zc T26.out 46 _ rfl rfl z_ru ?_;intro w27 g4 t27
   have T27:=Hh (t27);clear t27)
 |((with_reducible refine Zi 8 31 ?_);refine Za 46 _ _ 46 g4 _ ([I J (k:Int),I J 0,I J (tv.line:Int),I J (tv.col:Int),Λ none 0 0]) (T27.out.get 4 rfl) rfl Zqb (by simp[Γ]) rfl rfl rfl rfl rfl ?_
   intro w28 p28;have T28:=Hh (T27.out.put 4 rfl p28);clear p28)
 |((with_reducible refine Zd 41 ?_);refine Zb 66 _ 66 g3 _ (T28.out.get 3 rfl) Zo (Zf h1.len) rfl rfl rfl ?_)
 |(go_at_call 23;(with_reducible refine(hj1 _ v1 (ho.below T28.out.below) h1).mono ?_);rintro e w29 ⟨v3,rfl,h3,b29⟩
   have T29:=Hh (T28.out.call b29);clear b29)
 |(go_at_call 53;refine(hac _ v3 (ho.below T29.out.below) h3).mono ?_;rintro e w30 ⟨v4,f4,rfl,h4,d4,b30⟩
   obtain⟨A5,c5,rfl⟩:=d4.slice;have T30:=Hh (T29.out.tree b30 d4);clear d4;clear b30)
 |((with_reducible refine Zi 6 44 ?_);refine Za 66 _ _ 66 g3 _ (v4) (T30.out.get 3 rfl) (h4.len.trans h1.len.symm) (Zf h4.len) h4.one rfl rfl rfl rfl rfl ?_
   intro w31 p31;have T31:=Hh (T30.out.put 3 rfl p31);clear p31)
 |((with_reducible refine Zi 46 45 ?_);refine Zm 44 _ _ 46 g4 4 [I J (k:Int),I J 0,I J (tv.line:Int),I J (tv.col:Int)] (Λ none 0 0) (Λ A5 ac.1.len c5) [] (T31.out.get 4 rfl) rfl Zgs rfl rfl rfl rfl rfl rfl ?_
   intro w32 p32;have T32:=Hh (T31.out.put 4 rfl p32);clear p32)
 |((with_reducible refine Zd 47 ?_);refine Zb 66 _ 66 g3 _ (T32.out.get 3 rfl) Zo (Zf h4.len) rfl rfl rfl ?_)
 |(go_at_call 23;(with_reducible refine(hj2 _ v4 (ho.below T32.out.below) h4).mono ?_);rintro e w33 ⟨v6,rfl,h6,b33⟩
   have T33:=Hh (T32.out.call b33);clear b33)
 |((with_reducible refine Zi 1 48 ?_);refine Za 66 _ _ 66 g0 _ (v6) (T33.out.get 0 rfl) h6.len (Zf h6.len) h6.one rfl rfl rfl rfl rfl ?_
   intro w34 p34;have T34:=Hh (T33.out.put 0 rfl p34);clear p34)
 |((with_reducible refine Zd 50 ?_);refine Zb 46 _ 46 g4 _ (T34.out.get 4 rfl) row_ru Zqb rfl rfl rfl ?_)
 |((with_reducible refine Zd 51 ?_);refine Zbo 33 46 _ 51 5 56 _ [I J (k:Int),I J 0,I J (tv.line:Int),I J (tv.col:Int),Λ A5 ac.1.len c5] Zqo rfl (by decide) (by decide) Zpz rfl rfl rfl rfl ?_)
 |(at_builtin;refine Wv (.tmp 49) (.tmp 51) 33 46 5 56 _ Zpz Zqo rfl (by decide) (by decide) w.heap.size (Λ A acc.length cp) acc.length xs [I J (k:Int),I J 0,I J (tv.line:Int),I J (tv.col:Int),Λ A5 ac.1.len c5] ((T34.out.call (Zj w34 (.cells ([I J (k:Int),I J 0,I J (tv.line:Int),I J (tv.col:Int),Λ A5 ac.1.len c5]:List Value).toArray 46))).row _ (List.mem_singleton.2 rfl)) w34.heap.size (Ze.made _ _ _) rfl (by simp[Γ]) (by have:=HM.out;omega) (T34.out.call (Zj w34 (.cells ([I J (k:Int),I J 0,I J (tv.line:Int),I J (tv.col:Int),Λ A5 ac.1.len c5]:List Value).toArray 46))).below.size rfl rfl rfl rfl ?_
   intro v9 w35 o9 g9 at9;have T35:Hid (Env w [(g0,66,v6),(g1,66,[Λ none 0 0,I J 0,I J 0,I J 0,I J 0,I J 0]),(g2,69,[I J tv.k,Ψ tv.t,I J tv.n,I J (tv.line:Int),I J (tv.col:Int)]),(g3,66,v4),(g4,46,[I J (k:Int),I J 0,I J (tv.line:Int),I J (tv.col:Int),Λ A5 ac.1.len c5])] [⟨v9,46,5,acc.length+1,xs++[I J (k:Int),I J 0,I J (tv.line:Int),I J (tv.col:Int),Λ A5 ac.1.len c5]⟩] [(Zea acc,xs),(.row ac.1.len ac.1.ds .nil,[Λ A5 ac.1.len c5])] w35):=Hh ((T34.out.call (Zj w34 (.cells ([I J (k:Int),I J 0,I J (tv.line:Int),I J (tv.col:Int),Λ A5 ac.1.len c5]:List Value).toArray 46))).push o9 g9 at9)
   clear o9 g9 at9))
      (try go_simp)
      go_roundw
      case rel=>
       first
       |refine⟨m,acc++[⟨(k:Int),0,(tv.line:Int),(tv.col:Int),ac.1⟩],xs++[I J (k:Int),I J 0,I J (tv.line:Int),I J (tv.col:Int),Λ A5 ac.1.len c5],s5,v6,?_,h6,?_,?_,?_,?_,?_⟩
       |(repeat apply Exists.intro;refine⟨⟨m,acc++[⟨(k:Int),0,(tv.line:Int),(tv.col:Int),ac.1⟩],xs++[I J (k:Int),I J 0,I J (tv.line:Int),I J (tv.col:Int),Λ A5 ac.1.len c5],s5,v6,?_,h6,?_,?_,?_,?_,?_⟩,rfl⟩)
       ·rw[List.length_append,Zmm]
        exact T35.out.joinF (bs:=[(g0,66,v6),(g1,66,[Λ none 0 0,I J 0,I J 0,I J 0,I J 0,I J 0])]) 0 1 rfl rfl fun hD=>⟨_,rfl,_,rfl,_,rfl,_,rfl,hD⟩
       ·have:=HM.out;omega
       ·have:=HM.out;omega
       ·rw[List.length_append];simp only[List.length_cons,List.length_nil];have:=HM.out;omega
       ·rw[HE.out,HS.out];simp
       ·exact(T35.out.row _ (List.mem_singleton.2 rfl)).1.trans (by simp)
      case measure=>
       have h7:=Zam h6 (T35.out.get 0 rfl);have h8:=HB.out;have:=HM.out;rw[h7,h8];omega
def Zdu:List TokV→Ds
 |[]=>.nil
 |v::l=>.int v.k (.str v.t (.int v.n (.int (v.line:Int) (.int (v.col:Int) (Zdu l)))))
theorem toks_deep(N:Nat→Prop)(w:World):∀ L:List TokV,Zt N w (Zdu L) (Zaj L)
 |[]=>rfl
 |v::l=>⟨_,rfl,_,rfl,_,rfl,_,rfl,_,rfl,toks_deep N w l⟩
theorem toks_only{N:Nat→Prop}{w:World}:∀{L:List TokV}{xs:List Value},Zt N w (Zdu L) xs→xs=Zaj L
 |[],xs,h=>h
 |v::l,xs,⟨t1,e1,t2,e2,t3,e3,t4,e4,t5,e5,h⟩=>by
  have:=toks_only h;subst this e5 e4 e3 e2 e1;rfl
def RowKnown(r K:Nat)(L:List TokV)(A:Option Addr):Prop:=0<L.length→A=some ⟨r,0,none⟩∧Zog L∧L.length≤K∧K≤9223372036854775807
theorem Zv.of{N:Nat→Prop}{w:World}{r K c:Nat}{L:List TokV}{A:Option Addr}(h:Zt N w (.row L.length (Zdu L) .nil) [Λ A L.length c])(hA:RowKnown r K L A):Zv w r K L:=by
 intro hl;obtain⟨A',c',xs,t,e,hn,hW,hD,ht⟩:=h;injection e with e1 e2;injection e1 with e1;obtain⟨rfl,h1,h2,h3⟩:=hA hl;subst e1;obtain rfl:=toks_only hD;rcases hW with h | ⟨g,hg,_,hin,hc⟩
 ·have:=Zll L
  rw[h]at this;simp at this;omega
 ·injection hg with hg
  injection hg with hg;subst hg;exact⟨hc,hin,h1,h2,h3⟩
def QBegin(w:World)(s:ByteArray)(e:Ending)(w':World):Prop:=
 ∃(vs:List Value)(r K:Nat)(A:Option Addr)(c:Nat),e=η (.agg vs.toArray)∧RPv r K (Wy s) (Jz s) vs∧RowKnown r K (Wy s) A∧Zt (fun k=>w.heap.size≤k) w' (.row (Wy s).length (Zdu (Wy s)) .nil) [.slice A (Wy s).length c]∧Below w.heap.size w w'
theorem qbegin(s:ByteArray)(w:World)(hs:s.size≤65536):Calls Φ 18 #[Ψ s] w (QBegin w s):=by
 have hs2:s.size≤1099511627776:=by omega
 have T0:=Hh (Env.start w);rcases Zmh s hs with⟨E,l,c,hv,hE⟩ | ⟨L,hv,hL,_⟩
 ·have hn:=fun x=>qNew_err s x hs2 E l c hv
  have e1:Jz s=.bad (E,l,c):=by unfold Jz;rw[hv];exact if_neg hE
  have e2:Wy s=[]:=by unfold Wy;rw[hv]
  have HE:=Hh (ζ hE (ζ e1 e2));clear hs hs2 hv hE e1 e2;unfold Zq at hn;go_enter Tryz.func18,Tryz.ntmps18;go_wp2_with(first
 |((with_reducible refine Zd 2 ?_);refine Zc T0.out 66 _ rfl rfl z_P ?_;intro w1 g0 t1
   have T1:=Hh (t1);clear t1)
 |(go_at_call 46;refine(hn _).mono ?_;rintro e w2 ⟨A1,k1,rfl,b2⟩
   have T2:=Hh (T1.out.call b2);clear b2)
 |((with_reducible refine Zd 3 ?_);refine Zc T2.out 64 _ rfl rfl z_C ?_;intro w3 g1 t3
   have T3:=Hh (t3);clear t3)
 |((with_reducible refine Zd 4 ?_);refine Zc T3.out 29 _ rfl rfl z_F ?_;intro w4 g2 t4
   have T4:=Hh (t4);clear t4)
 |((with_reducible refine Zi 3 8 ?_);refine Za 64 _ _ 64 g1 _ ([Λ A1 0 k1,I J 0,I J 0]) (T4.out.get 1 rfl) rfl Vi (by simp[Γ]) rfl rfl rfl rfl rfl ?_
   intro w5 p5;have T5:=Hh (T4.out.put 1 rfl p5);clear p5)
 |((with_reducible refine Zi 4 9 ?_);refine Za 29 _ _ 29 g2 _ ([I J E,I J (l:Int),I J (c:Int)]) (T5.out.get 2 rfl) rfl Vh (by simp[Γ]) rfl rfl rfl rfl rfl ?_
   intro w6 p6;have T6:=Hh (T5.out.put 2 rfl p6);clear p6)
 |((with_reducible refine Zd 10 ?_);refine Zb 64 _ 64 g1 _ (T6.out.get 1 rfl) Zco Vi rfl rfl rfl ?_)
 |((with_reducible refine Zd 11 ?_);refine Zb 29 _ 29 g2 _ (T6.out.get 2 rfl) Zdg Vh rfl rfl rfl ?_)
 |((with_reducible refine Zi 2 12 ?_);refine Za 66 _ _ 66 g0 _ ([Λ A1 0 k1,I J 0,I J 0,I J E,I J (l:Int),I J (c:Int)]) (T6.out.get 0 rfl) rfl Ye (by simp[Γ]) rfl rfl rfl rfl rfl ?_
   intro w7 p7;have T7:Hid (Env w [(g0,66,[Λ A1 0 k1,I J 0,I J 0,I J E,I J (l:Int),I J (c:Int)]),(g1,64,[Λ A1 0 k1,I J 0,I J 0]),(g2,29,[I J E,I J (l:Int),I J (c:Int)])] [] [] w7):=Hh (T6.out.put 0 rfl p7);clear p7))
  refine Wu 2 66 66 _ _ rfl (T7.out.get 0 rfl) Zo Ye rfl rfl ?_;refine⟨_,0,0,none,0,rfl,?_,?_,?_,T7.out.below⟩
  · rw[HE.out.2.1,HE.out.2.2]
    exact RPv.mkBad (F:=(E,l,c)) A1 0 k1 0 0 (Nat.zero_le _) HE.out.1
  ·rw[HE.out.2.2];intro h;exact absurd h (Nat.lt_irrefl _)
  ·rw[HE.out.2.2];exact Yn _ _
 ·have hn:=fun x=>qNew_ok s x hs2 L hv hL
  have e1:Jz s=.ok 0 0:=by unfold Jz;rw[hv];exact if_pos rfl
  have e2:Wy s=L:=by unfold Wy;rw[hv]
  have hpos:=hL.pos;have HE:=Hh (ζ e1 (ζ e2 hpos));clear hs hs2 hv e1 e2 hL hpos;go_enter Tryz.func18,Tryz.ntmps18;go_wp2_with(first
 |((with_reducible refine Zd 2 ?_);refine Zc T0.out 66 _ rfl rfl z_P ?_;intro w1 g0 t1
   have T1:=Hh (t1);clear t1)
 |(go_at_call 46;refine(hn _).mono ?_;rintro e w2 ⟨r,K,rfl,hr,hlo,b2⟩
   have hd:Zt (fun k=>w1.heap.size≤k) w2 (.row L.length (Zdu L) .nil) [Λ (some ⟨r,0,none⟩) L.length K]:=⟨_,_,Zaj L,[],rfl,⟨Ξ hr.capL hr.capM,hr.capL⟩,.inr ⟨r,rfl,hlo,hr.rin,hr.row⟩,toks_deep _ _ L,rfl⟩
   have HR:=Hh hr;have T2:=Hh (T1.out.tree b2 hd);clear hr hlo hd;clear b2)
 |((with_reducible refine Zd 3 ?_);refine Zc T2.out 64 _ rfl rfl z_C ?_;intro w3 g1 t3
   have T3:=Hh (t3);clear t3)
 |((with_reducible refine Zd 4 ?_);refine Zc T3.out 29 _ rfl rfl z_F ?_;intro w4 g2 t4
   have T4:=Hh (t4);clear t4)
 |((with_reducible refine Zi 3 8 ?_);refine Za 64 _ _ 64 g1 _ ([Λ (some ⟨r,0,none⟩) L.length K,I J 0,I J 0]) (T4.out.get 1 rfl) rfl Vi (by simp[Γ]) rfl rfl rfl rfl rfl ?_
   intro w5 p5;have T5:=Hh (T4.out.put 1 rfl p5);clear p5)
 |((with_reducible refine Zi 4 9 ?_);refine Za 29 _ _ 29 g2 _ ([I J 0,I J 0,I J 0]) (T5.out.get 2 rfl) rfl Vh (by simp[Γ]) rfl rfl rfl rfl rfl ?_
   intro w6 p6;have T6:=Hh (T5.out.put 2 rfl p6);clear p6)
 |((with_reducible refine Zd 10 ?_);refine Zb 64 _ 64 g1 _ (T6.out.get 1 rfl) Zco Vi rfl rfl rfl ?_)
 |((with_reducible refine Zd 11 ?_);refine Zb 29 _ 29 g2 _ (T6.out.get 2 rfl) Zdg Vh rfl rfl rfl ?_)
 |((with_reducible refine Zi 2 12 ?_);refine Za 66 _ _ 66 g0 _ ([Λ (some ⟨r,0,none⟩) L.length K,I J 0,I J 0,I J 0,I J 0,I J 0]) (T6.out.get 0 rfl) rfl Ye (by simp[Γ]) rfl rfl rfl rfl rfl ?_
   intro w7 p7;have T7:Hid (Env w [(g0,66,[Λ (some ⟨r,0,none⟩) L.length K,I J 0,I J 0,I J 0,I J 0,I J 0]),(g1,64,[Λ (some ⟨r,0,none⟩) L.length K,I J 0,I J 0]),(g2,29,[I J 0,I J 0,I J 0])] [] [(.row L.length (Zdu L) .nil,[Λ (some ⟨r,0,none⟩) L.length K])] w7):=Hh (T6.out.put 0 rfl p7);clear p7))
  refine Wu 2 66 66 _ _ rfl (T7.out.get 0 rfl) Zo Ye rfl rfl ?_;refine⟨_,r,K,some ⟨r,0,none⟩,K,rfl,?_,?_,?_,T7.out.below⟩
  · rw[HE.out.1,HE.out.2.1]
    exact RPv.mkOk (a:=0) (d:=0) rfl HE.out.2.2 (Nat.zero_le _)
  ·rw[HE.out.2.1];intro _;exact⟨rfl,HR.out.ends,HR.out.capL,HR.out.capM⟩
  ·rw[HE.out.2.1];exact T7.out.leaf 0 rfl
open Go Go.RowKit
section
variable {w x y:World} {bs:List Bk} {ts:List (Ds×List Value)} {ra rb:Rw} {v':Value} {news:List Value}
theorem Env.pushL(h:Env w bs [ra,rb] ts x)(ho:y.ownsRow w.heap.size ra.e ra.sz v' (ra.n+1) (ra.xs++news))(hg:x.grownBy y ra.v.ownBlock)
  (hat:v'.ownBlock=ra.v.ownBlock∨v'.ownBlock=some x.heap.size):Env w bs [⟨v',ra.e,ra.sz,ra.n+1,ra.xs++news⟩,rb] ts y:=by
 have hk:Zy (fun k=>ra.v.ownBlock=some k) x y:=Zy.grown (Zy.refl _ _) hg fun k hk=>hk
 have ma:ra ∈ [ra,rb]:=List.mem_cons_self;have mb:rb ∈ [ra,rb]:=List.mem_cons_of_mem _ (List.mem_singleton.2 rfl);have hr:=h.row _ ma;have hrb:=h.row _ mb;have ha:=h.apart _ ma;have hab:∀ k,ra.v.ownBlock=some k→rb.v.ownBlock≠some k:=(List.pairwise_cons.1 h.rapart).1 rb (List.mem_singleton.2 rfl)
 refine⟨fun b hb=>hk.whole (h.at_ b hb) (ha b hb),h.lo,h.nod,fun r hr'=>?_,fun r hr' b hb=>?_,?_,fun u hu=>?_,h.below.trans (hk.below h.below.size fun k e=>(hr.lt k e).1)⟩
 ·rcases List.mem_cons.1 hr' with rfl | hr'
  ·exact ho
  ·cases List.mem_singleton.1 hr'
   exact hk.owns hrb fun k hk' c=>hab k c hk'
 ·rcases List.mem_cons.1 hr' with rfl | hr'
  ·show v'.ownBlock≠_
   rcases hat with e | e
   ·rw[e];exact ha b hb
   ·rw[e];intro c
    have:=(h.at_ b hb).inside;injection c with c;omega
  ·cases List.mem_singleton.1 hr'
   exact h.apart _ mb b hb
 ·refine List.pairwise_cons.2 ⟨fun r hr' k hk'=>?_,List.pairwise_singleton _ _⟩
  cases List.mem_singleton.1 hr'
  have hk'':v'.ownBlock=some k:=hk';rcases hat with e | e
  ·rw[e]at hk'';exact hab k hk''
  ·rw[e]at hk'';injection hk'' with e2
   intro c;have:=(hrb.lt k c).2;omega
 ·refine(h.deep u hu).keeps hk fun k hk' hn=>⟨hn.2.2 _ ma,hn.1,hn.2.1,fun r hr'=>?_⟩
  rcases List.mem_cons.1 hr' with rfl | hr'
  ·show v'.ownBlock≠_
   rcases hat with e | e
   ·rw[e];exact hn.2.2 _ ma
   ·rw[e];intro c;injection c with c;omega
  ·cases List.mem_singleton.1 hr'
   exact hn.2.2 _ mb
theorem Env.turn(h:Env w bs [ra,rb] ts x):Env w bs [rb,ra] ts x:=by
 have ma:ra ∈ [ra,rb]:=List.mem_cons_self;have mb:rb ∈ [ra,rb]:=List.mem_cons_of_mem _ (List.mem_singleton.2 rfl);have hab:∀ k,ra.v.ownBlock=some k→rb.v.ownBlock≠some k:=(List.pairwise_cons.1 h.rapart).1 rb (List.mem_singleton.2 rfl)
 have hm:∀ r,r ∈ [rb,ra]→r ∈ [ra,rb]:=fun r hr=>by
  rcases List.mem_cons.1 hr with rfl | hr
  ·exact mb
  ·cases List.mem_singleton.1 hr;exact ma
 have hm':∀ r,r ∈ [ra,rb]→r ∈ [rb,ra]:=fun r hr=>by
  rcases List.mem_cons.1 hr with rfl | hr
  ·exact List.mem_cons_of_mem _ (List.mem_singleton.2 rfl)
  ·cases List.mem_singleton.1 hr;exact List.mem_cons_self
 refine⟨h.at_,h.lo,h.nod,fun r hr=>h.row r (hm r hr),fun r hr=>h.apart r (hm r hr),?_,fun u hu=>(h.deep u hu).mono fun k _ hn=>⟨hn.1,hn.2.1,fun r hr=>hn.2.2 r (hm r hr)⟩,h.below⟩;refine List.pairwise_cons.2 ⟨fun r hr k hk c=>?_,List.pairwise_singleton _ _⟩;cases List.mem_singleton.1 hr
 exact hab k c hk
theorem Env.pushR(h:Env w bs [ra,rb] ts x)(ho:y.ownsRow w.heap.size rb.e rb.sz v' (rb.n+1) (rb.xs++news))(hg:x.grownBy y rb.v.ownBlock)
 (hat:v'.ownBlock=rb.v.ownBlock∨v'.ownBlock=some x.heap.size):Env w bs [ra,⟨v',rb.e,rb.sz,rb.n+1,rb.xs++news⟩] ts y:=(h.turn.pushL ho hg hat).turn
theorem Env.rows2(h:Env w bs [] ts x)(e1 e2:TypeId)(s1 s2:Nat):Env w bs [⟨Λ none 0 0,e1,s1,0,[]⟩,⟨Λ none 0 0,e2,s2,0,[]⟩] (ts++[(.nil,[])]++[(.nil,[])]) x:=by
 have hz:∀ r:Rw,r ∈ [(⟨Λ none 0 0,e1,s1,0,[]⟩:Rw),⟨Λ none 0 0,e2,s2,0,[]⟩]→r.v.ownBlock=none∧x.ownsRow w.heap.size r.e r.sz r.v r.n r.xs:=fun r hr=>by
  rcases List.mem_cons.1 hr with rfl | hr
  ·exact⟨rfl,World.ownsRow_nil _ _ _ _⟩
  ·cases List.mem_singleton.1 hr;exact⟨rfl,World.ownsRow_nil _ _ _ _⟩
 have h2:Env w bs [⟨Λ none 0 0,e1,s1,0,[]⟩,⟨Λ none 0 0,e2,s2,0,[]⟩] ts x:=
  ⟨h.at_,h.lo,h.nod,fun r hr=>(hz r hr).2,fun r hr b hb=>by rw[(hz r hr).1];simp,List.pairwise_cons.2 ⟨fun r hr k hk=>(by cases hk),List.pairwise_singleton _ _⟩,
    fun u hu=>(h.deep u hu).mono fun k _ hn=>⟨hn.1,hn.2.1,fun r hr=>by rw[(hz r hr).1];simp⟩,h.below⟩
 exact(h2.addT (ds:=.nil) (vs:=[]) rfl).addT (ds:=.nil) (vs:=[]) rfl
end
end Go.Proofs.YtdngkgickbaboaaGreat
