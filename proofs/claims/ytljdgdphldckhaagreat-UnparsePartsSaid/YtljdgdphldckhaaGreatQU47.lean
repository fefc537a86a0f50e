/-
  No conditions but those that each theorem names.
-/
import Derived.Test.YtljdgdphldckhaaGreatQU43
import Derived.Test.YtljdgdphldckhaaGreatQU44
import Derived.Test.YtljdgdphldckhaaGreatQU46
set_option maxRecDepth 20000
set_option maxHeartbeats 12800000
namespace Go.Proofs.YtljdgdphldckhaaGreat
open Go.ChangeShapes Go.WideShapes Go.ChangeAt Go.RowKit
set_option linter.unusedVariables false
set_option linter.unusedSimpArgs false
theorem z_tok:(Tryz.prog.info? 85).map (fun i=>i.zero.map Value.cells)=some (some ([.int .i64 0,.string ⟨#[]⟩,.int .i64 0,.int .i64 0,.int .i64 0]:List Value).toArray):=by kernel_rfl
theorem size_tok:(Tryz.prog.info? 85).map (·.size)=some 5:=by kernel_rfl
theorem Env.join{w x:World}{bs cs:List Bk}{rs:List Rw}{ts:List (Ds×List Value)}(h:Env w (bs++cs) rs ts x)(i j:Nat){d1 d2:Ds}{l u:List Value}(hi:ts[i]?=some (d1,l))(hj:ts[j]?=some (d2,u)):Env w bs rs [(d1.app d2,l++u)] x:=by
 have h':=h.less (bs:=bs) (cs:=cs) (ts:=[]) (us:=ts);exact h'.addT (Zu.app ((h.deep _ (List.mem_of_getElem? hj)).mono fun k _ hn=>Znh hn) ((h.deep _ (List.mem_of_getElem? hi)).mono fun k _ hn=>Znh hn))
theorem Env.row0{w x:World}{bs:List Bk}{ts:List (Ds×List Value)}(h:Env w bs [] ts x)(e:TypeId)(sz:Nat):Env w bs [⟨.slice none 0 0,e,sz,0,[]⟩] (ts++[(.nil,[])]) x:=(h.row1 e sz).addT rfl
theorem qact(n:Nat)(ih:Zhz n):QActOK (n+1):=by
 intro w r K L st vs k l c ho hp h1 h15 hn hLn;have hpl:¬ k=10→¬ k=11→Zbn 3 L (n+1) (AH.zero k l c) k st=⟨(Wn 3 L n (AH.zero k l c) k st).1,.nil,.nil,Yw L Xi (Wn 3 L n (AH.zero k l c) k st).2⟩:=fun a b=>by rw[Zbn,if_neg a,if_neg b]
 have hc:k=1∨k=2∨k=3∨k=4∨k=5∨k=6∨k=7∨k=8∨k=9∨k=10∨k=11∨k=12∨k=13∨k=14∨k=15:=by omega
 rcases hc with rfl | rfl | rfl | rfl | rfl | rfl | rfl | rfl | rfl | rfl | rfl | rfl | rfl | rfl | rfl
 ·rw[hpl (by decide) (by decide)]
  exact qplain1 w r K L st vs l c n ho hp (by omega) hLn
 ·rw[hpl (by decide) (by decide)]
  exact qplain2 w r K L st vs l c n ho hp (by omega) hLn
 ·rw[hpl (by decide) (by decide)]
  exact qplain3 w r K L st vs l c n ho hp (by omega) hLn
 ·rw[hpl (by decide) (by decide)]
  exact qplain4 w r K L st vs l c n ho hp (by omega) hLn
 ·rw[hpl (by decide) (by decide)]
  exact qplain5 w r K L st vs l c n ho hp (by omega) hLn
 ·rw[hpl (by decide) (by decide)]
  exact qplain6 w r K L st vs l c n ho hp (by omega) hLn
 ·rw[hpl (by decide) (by decide)]
  exact qplain7 w r K L st vs l c n ho hp (by omega) hLn
 ·rw[hpl (by decide) (by decide)]
  exact qplain8 w r K L st vs l c n ho hp (by omega) hLn
 ·rw[hpl (by decide) (by decide)]
  exact qplain9 w r K L st vs l c n ho hp (by omega) hLn
 ·have e1:Zbn 3 L (n+1) (AH.zero ((10:Nat):Int) l c) 10 st=if isS L Ug (Yv 3 L n (Uv 3 L n (AH.zero ((10:Nat):Int) l c) st).2).2=true then
    ⟨(Uv 3 L n (AH.zero ((10:Nat):Int) l c) st).1,(Yv 3 L n (Uv 3 L n (AH.zero ((10:Nat):Int) l c) st).2).1,(Yv 3 L n (Xy L Ug (Yv 3 L n (Uv 3 L n (AH.zero ((10:Nat):Int) l c) st).2).2)).1,(Yv 3 L n (Xy L Ug (Yv 3 L n (Uv 3 L n (AH.zero ((10:Nat):Int) l c) st).2).2)).2⟩
   else⟨(Uv 3 L n (AH.zero ((10:Nat):Int) l c) st).1,(Yv 3 L n (Uv 3 L n (AH.zero ((10:Nat):Int) l c) st).2).1,.nil,(Yv 3 L n (Uv 3 L n (AH.zero ((10:Nat):Int) l c) st).2).2⟩:=by rw[Zbn,if_pos rfl]
  rw[e1];by_cases hb:isS L Ug (Yv 3 L n (Uv 3 L n (AH.zero ((10:Nat):Int) l c) st).2).2=true
  ·rw[if_pos hb]
   exact qif_else w r K L st vs l c n ih ho hp (by omega) hLn hb
  ·rw[if_neg hb]
   exact qif w r K L st vs l c n ih ho hp (by omega) hLn hb
 ·exact qeach w r K L st vs l c n ih ho hp (by omega) hLn
 ·rw[hpl (by decide) (by decide)]
  exact qplain12 w r K L st vs l c n ho hp (by omega) hLn
 ·rw[hpl (by decide) (by decide)]
  exact qplain13 w r K L st vs l c n ho hp (by omega) hLn
 ·rw[hpl (by decide) (by decide)]
  exact qplain14 w r K L st vs l c n ho hp (by omega) hLn
 ·rw[hpl (by decide) (by decide)]
  exact qplain15 w r K L st vs l c n ho hp (by omega) hLn
theorem qacts(n:Nat)(ih:∀ m,m+1≤n→QActOK m):QActsOK n:=by
 intro w r K L st vs ho hp hn hLn;have T0:=Hh (Env.start w);have HN:=Hh (And.intro hn hLn);clear hn hLn;go_enter Tryz.func62,Tryz.ntmps62;go_wp2_with(first
 |((with_reducible refine Ze 1 ?_);refine Zk T0.out 82 _ (vs) rfl rfl rfl ?_;intro w1 g0 t1
   have T1:=Hh (t1);clear t1)
 |((with_reducible refine Ze 2 ?_);refine Zc T1.out 82 _ rfl rfl z_P ?_;intro w2 g1 t2
   have T2:Hid (Env w [(g0,82,vs),(g1,82,[.slice none 0 0,.int .i64 0,.int .i64 0,.int .i64 0,.int .i64 0,.int .i64 0])] [] [] w2):=Hh (t2);clear t2))
 go_loopw [4] (fun v wr=>∃(m:Nat)(acc:Acs)(xs:List Value)(s:St)(us:List Value),Env w [(g0,82,us),(g1,82,[.slice none 0 0,.int .i64 0,.int .i64 0,.int .i64 0,.int .i64 0,.int .i64 0])] [⟨v,57,53,acc.len,xs⟩] [(acc.ds,xs)] wr∧RPv r K L s us∧8*Yb L s+8≤m∧m≤n∧acc.len+Yb L s≤Yb L st∧Vn 3 L n st=(acc.app (Vn 3 L m s).1,(Vn 3 L m s).2)∧xs.length=acc.len*53) (fun _ wr=>remB g0 L.length wr)
 case atStart=>exact⟨n,.nil,[],st,vs,T2.out.row0 57 53,hp,HN.out.1,Nat.le_refl _,by simp[Acs.len],rfl,rfl⟩
 case round=>
  obtain⟨m,acc,xs,s,us,hT,hs,hm,hmn,hacc,heq,_⟩:=hrel;obtain⟨m,rfl⟩:∃ m',m=m'+1:=⟨m - 1,by omega⟩
  obtain⟨A,cp,rfl,_,_,_⟩:=Wd (show World.ownsRow _ w.heap.size 57 53 _ acc.len xs from hT.row _ (List.mem_singleton.2 rfl));have hrem:=Zec hs (hT.get 0 rfl);clear hp;cases s with
  |bad F=>
    have HP:=Hh hs;obtain⟨SA,nb,kb,a,d,rfl,hd,hF⟩:=hs.bad;obtain⟨f0,f1,f2⟩:=F;have z0:(f0 == 0)=false:=by rw[beq_eq_false_iff_ne];exact hF
    obtain⟨c0,c1,c2,c3,c4,c5⟩:=Wq (hT.get 0 rfl);have T20:=Hh hT;have HE:=Hh heq;clear hT hs hm hmn hacc heq hrem hF;go_wp2_with(first
 |((with_reducible refine Ze 43 ?_);refine Zb 82 _ 82 g0 _ (T20.out.get 0 rfl) Zn Yg rfl rfl rfl ?_)
 |((with_reducible refine Zi 2 43 ?_);refine Za 82 _ _ 82 g1 _ ([.slice SA nb kb,.int .i64 (a:Int),.int .i64 (d:Int),.int .i64 f0,.int .i64 (f1:Int),.int .i64 (f2:Int)]) (T20.out.get 1 rfl) rfl Yg (by simp[Value.oneCell']) rfl rfl rfl rfl rfl ?_
   intro w21 p21;have T21:Hid (Env w [(g0,82,[.slice SA nb kb,.int .i64 (a:Int),.int .i64 (d:Int),.int .i64 f0,.int .i64 (f1:Int),.int .i64 (f2:Int)]),(g1,82,[.slice SA nb kb,.int .i64 (a:Int),.int .i64 (d:Int),.int .i64 f0,.int .i64 (f1:Int),.int .i64 (f2:Int)])] [⟨.slice A acc.len cp,57,53,acc.len,xs⟩] [(acc.ds,xs)] w21):=Hh (T20.out.put 1 rfl p21)
   clear p21))
    refine Xm 2 82 3 82 _ _ _ rfl (T21.out.get 1 rfl) Zn (Zf HP.out.len) rfl rfl rfl ?_;rw[HE.out,acts_stop 3 L m _ rfl];dsimp only;rw[Acs.app_nil];exact⟨_,_,rfl,HP.out,Zu.rowOf (T21.out.row _ (List.mem_singleton.2 rfl)) (fun k hk=>hk) (T21.out.leaf 0 rfl),T21.out.below⟩
  |ok a d=>
    have HP:=Hh hs;obtain⟨nn,hnn,rfl,ha,hd⟩:=hs.ok;have hrow:=ho (by omega);have HR:=Hh hrow;have HNN:=Hh (And.intro hnn ha);obtain⟨c0,c1,c2,c3,c4,c5⟩:=Wq (hT.get 0 rfl);have hle:=Zhu L Xo (.ok a d);have hfr:=Zao (L:=L) (ws:=Xo) (st:=.ok a d);have hfn:=Zbj L (ws:=Xo) (st:=.ok a d);have hst:=acts_step 3 L m (.ok a d);have hsp:=acts_stop 3 L m (.ok a d);have hhe:∀ x,Zai x r K L→Calls Tryz.prog 46 #[.agg #[.slice (some ⟨r,0,none⟩) nn K,.int .i64 (a:Int),.int .i64 (d:Int)],.int .i64 0] x (fun e w'=>e=.returned (Vu (Zv L a))∧Below x.heap.size x w'):=fun x h=>Znt x r K L nn a d HNN.out.1 h HNN.out.2
    have hmy:∀(x:World)(us:List Value),Ya x r K L→RPv r K L (.ok a d) us→Calls Tryz.prog 47 #[.agg us.toArray,.slice (some ⟨x.heap.size,0,none⟩) 15 15] (x.alloc (.cells #[.string ⟨#[112,111,119,101,114]⟩,.string ⟨#[115,101,116]⟩,.string ⟨#[100,101,115,116,114,111,121]⟩,.string ⟨#[109,111,118,101]⟩,.string ⟨#[114,101,116,117,114,110]⟩,.string ⟨#[115,112,97,119,110]⟩,.string ⟨#[100,114,97,119]⟩,.string ⟨#[100,105,115,99,97,114,100]⟩,.string ⟨#[101,110,101,114,103,121]⟩,.string ⟨#[105,102]⟩,.string ⟨#[101,97,99,104]⟩,.string ⟨#[97,117,114,97]⟩,.string ⟨#[100,111,117,98,108,101]⟩,.string ⟨#[115,104,105,101,108,100]⟩,.string ⟨#[98,97,114]⟩] 9)) (PVo x r K L (Yu L Xo (.ok a d)) (.int .i64 (Zj L Xo (.ok a d)))):=fun x us h1 h2=>qmayB x r K _ L (.ok a d) us Xo 15 15 _ rfl rfl h1 h2 rfl (by decide)
    have htk:St.tok L (.ok a d)=Zv L a:=rfl;rw[htk]at hst;clear htk hs hrow hnn;generalize Zv L a=tv at *;generalize Zj L Xo (.ok a d)=k at *;generalize Yu L Xo (.ok a d)=s1 at *;have T20:=Hh hT;have HE:=Hh heq;have HB:=Hh hrem;have hle15:k≤15:=hle;unfold Vu at hhe;clear hT heq hle hrem;by_cases hk0:k=0
    ·have HS:=Hh (And.intro (hsp hk0) (hfn hk0))
     subst hk0;rw[show((0:Nat):Int)=0 from rfl]at hmy;clear hst hsp hfn hfr hm hmn hacc hle15;go_wp2_with(first
 |((with_reducible refine Ze 15 ?_);refine Vq 80 _ 82 g0 0 ([]) ([.slice (some ⟨r,0,none⟩) nn K,.int .i64 (a:Int),.int .i64 (d:Int)]) ([.int .i64 0,.int .i64 0,.int .i64 0]) (T20.out.get 0 rfl) rfl Zfs Vz rfl rfl rfl ?_)
 |(go_at_call 46;refine(hhe _ (HR.out.below T20.out.below)).mono ?_;rintro e w21 ⟨rfl,b21⟩
   have T21:=Hh (T20.out.call b21);clear b21)
 |((with_reducible refine Ze 5 ?_);refine Zc T21.out 85 _ rfl rfl z_tok ?_;intro w22 g2 t22
   have T22:=Hh (t22);clear t22)
 |((with_reducible refine Zi 5 16 ?_);refine Za 85 _ _ 85 g2 _ ([.int .i64 tv.k,.string tv.t,.int .i64 tv.n,.int .i64 (tv.line:Int),.int .i64 (tv.col:Int)]) (T22.out.get 2 rfl) rfl size_tok (by simp[Value.oneCell']) rfl rfl rfl rfl rfl ?_
   intro w23 p23;have T23:=Hh (T22.out.put 2 rfl p23);clear p23)
 |((with_reducible refine Ze 18 ?_);refine Zb 82 _ 82 g0 _ (T23.out.get 0 rfl) Zn Yg rfl rfl rfl ?_)
 |(go_at_call 47;refine(hmy _ _ (ho.below T23.out.below) HP.out).mono ?_;rintro e w24 ⟨v1,rfl,h1,b24⟩
   have T24:=Hh (T23.out.call b24);clear b24)
 |((with_reducible refine Ze 6 ?_);refine Zc T24.out 82 _ rfl rfl z_P ?_;intro w25 g3 t25
   have T25:=Hh (t25);clear t25)
 |((with_reducible refine Zi 6 21 ?_);refine Za 82 _ _ 82 g3 _ (v1) (T25.out.get 3 rfl) h1.len (Zf h1.len) h1.one rfl rfl rfl rfl rfl ?_
   intro w26 p26;have T26:=Hh (T25.out.put 3 rfl p26);have hli:=T26.out.cell 2 3 rfl rfl;have hco:=T26.out.cell 2 4 rfl rfl;clear p26)
 |((with_reducible refine Ze 25 ?_);refine Zb 82 _ 82 g3 _ (T26.out.get 3 rfl) Zn (Zf h1.len) rfl rfl rfl ?_)
 |((with_reducible refine Zi 2 25 ?_);refine Za 82 _ _ 82 g1 _ (v1) (T26.out.get 1 rfl) h1.len (Zf h1.len) h1.one rfl rfl rfl rfl rfl ?_
   intro w27 p27;have T27:Hid (Env w [(g0,82,[.slice (some ⟨r,0,none⟩) nn K,.int .i64 (a:Int),.int .i64 (d:Int),.int .i64 0,.int .i64 0,.int .i64 0]),(g1,82,v1),(g2,85,[.int .i64 tv.k,.string tv.t,.int .i64 tv.n,.int .i64 (tv.line:Int),.int .i64 (tv.col:Int)]),(g3,82,v1)] [⟨.slice A acc.len cp,57,53,acc.len,xs⟩] [(acc.ds,xs)] w27):=Hh (T26.out.put 1 rfl p27)
   clear p27))
     have hs:=HS.out.2;subst hs;refine Xm 2 82 3 82 _ _ _ rfl (T27.out.get 1 rfl) Zn (Zf h1.len) rfl rfl rfl ?_;rw[HE.out,HS.out.1];dsimp only;rw[Acs.app_nil];exact⟨_,_,rfl,h1,Zu.rowOf (T27.out.row _ (List.mem_singleton.2 rfl)) (fun k hk=>hk) (T27.out.leaf 0 rfl),T27.out.below⟩
    ·have hst:=hst hk0
     have hfr:=hfr hk0;have hac:∀(y:World)(us:List Value),Ya y r K L→RPv r K L s1 us→Calls Tryz.prog 115 #[.agg us.toArray,.agg (Zch (k:Int) (tv.line:Int) (tv.col:Int)).toArray] y (PTo y r K L (Zbn 3 L m (AH.zero (k:Int) (tv.line:Int) (tv.col:Int)) k s1).st (Zbn 3 L m (AH.zero (k:Int) (tv.line:Int) (tv.col:Int)) k s1).ds):=fun y us h1 h2=>ih m (by omega) y r K L s1 us k _ _ h1 h2 (by omega) hle15 (by omega) (by have:=HN.out;omega)
     have hrk:=rem_act L 3 m (AH.zero (k:Int) (tv.line:Int) (tv.col:Int)) k s1;generalize Zbn 3 L m (AH.zero (k:Int) (tv.line:Int) (tv.col:Int)) k s1=x at *;have HLn:=Hh (show x.ds.len=53 from AH.dsr_len _ _ _ _ _);have q0:((k:Int) == 0)=false:=by rw[beq_eq_false_iff_ne];omega
     have HS:=Hh hst;have HM:=Hh (show acc.len≤68719476736∧8*Yb L x.st+8≤m∧m≤n∧(acc.len+1)+Yb L x.st≤Yb L st∧Yb L x.st<Yb L (.ok a d) by have:=HN.out;omega);clear hst hsp hfn hfr hm hmn hacc hle15 hrk hk0;go_wp2_with(first
 |((with_reducible refine Ze 15 ?_);refine Vq 80 _ 82 g0 0 ([]) ([.slice (some ⟨r,0,none⟩) nn K,.int .i64 (a:Int),.int .i64 (d:Int)]) ([.int .i64 0,.int .i64 0,.int .i64 0]) (T20.out.get 0 rfl) rfl Zfs Vz rfl rfl rfl ?_)
 |(go_at_call 46;refine(hhe _ (HR.out.below T20.out.below)).mono ?_;rintro e w21 ⟨rfl,b21⟩
   have T21:=Hh (T20.out.call b21);clear b21)
 |((with_reducible refine Ze 5 ?_);refine Zc T21.out 85 _ rfl rfl z_tok ?_;intro w22 g2 t22
   have T22:=Hh (t22);clear t22)
 |((with_reducible refine Zi 5 16 ?_);refine Za 85 _ _ 85 g2 _ ([.int .i64 tv.k,.string tv.t,.int .i64 tv.n,.int .i64 (tv.line:Int),.int .i64 (tv.col:Int)]) (T22.out.get 2 rfl) rfl size_tok (by simp[Value.oneCell']) rfl rfl rfl rfl rfl ?_
   intro w23 p23;have T23:=Hh (T22.out.put 2 rfl p23);clear p23)
 |((with_reducible refine Ze 18 ?_);refine Zb 82 _ 82 g0 _ (T23.out.get 0 rfl) Zn Yg rfl rfl rfl ?_)
 |(go_at_call 47;refine(hmy _ _ (ho.below T23.out.below) HP.out).mono ?_;rintro e w24 ⟨v1,rfl,h1,b24⟩
   have T24:=Hh (T23.out.call b24);clear b24)
 |((with_reducible refine Ze 6 ?_);refine Zc T24.out 82 _ rfl rfl z_P ?_;intro w25 g3 t25
   have T25:=Hh (t25);clear t25)
 |((with_reducible refine Zi 6 21 ?_);refine Za 82 _ _ 82 g3 _ (v1) (T25.out.get 3 rfl) h1.len (Zf h1.len) h1.one rfl rfl rfl rfl rfl ?_
   intro w26 p26;have T26:=Hh (T25.out.put 3 rfl p26);have hli:=T26.out.cell 2 3 rfl rfl;have hco:=T26.out.cell 2 4 rfl rfl;clear p26)
 |((with_reducible refine Ze 28 ?_);refine Zb 82 _ 82 g3 _ (T26.out.get 3 rfl) Zn (Zf h1.len) rfl rfl rfl ?_)
 |(go_at_call 115;refine(hac _ v1 (ho.below T26.out.below) h1).mono ?_;rintro e w27 ⟨v2,u2,rfl,h2,d2,b27⟩
   have l2:=(d2.len.trans HLn.out)
   have o2:=Hh d2.one;have T27:=Hh (T26.out.tree b27 d2);clear d2;clear b27)
 |((with_reducible refine Ze 8 ?_);refine Zc T27.out 82 _ rfl rfl z_P ?_;intro w28 g4 t28
   have T28:=Hh (t28);clear t28)
 |((with_reducible refine Ze 9 ?_);refine Zc T28.out 57 _ rfl rfl Zey ?_;intro w29 g5 t29
   have T29:=Hh (t29);clear t29)
 |((with_reducible refine Zi 8 36 ?_);refine Za 82 _ _ 82 g4 _ (v2) (T29.out.get 4 rfl) h2.len (Zf h2.len) h2.one rfl rfl rfl rfl rfl ?_
   intro w30 p30;have T30:=Hh (T29.out.put 4 rfl p30);clear p30)
 |((with_reducible refine Zi 9 37 ?_);refine Za 57 _ _ 57 g5 _ (u2) (T30.out.get 5 rfl) l2 (Xe l2) o2.out rfl rfl rfl rfl rfl ?_
   intro w31 p31;have T31:=Hh (T30.out.put 5 rfl p31);clear p31)
 |((with_reducible refine Ze 39 ?_);refine Zb 57 _ 57 g5 _ (T31.out.get 5 rfl) Wi (Xe l2) rfl rfl rfl ?_)
 |((with_reducible refine Ze 40 ?_);refine Zog 41 57 _ 40 53 576 zact u2 info_act l2 (by decide) (by decide) Zjg rfl rfl rfl rfl ?_)
 |(at_builtin;refine Vp (.tmp 38) (.tmp 40) 41 57 53 576 zact Zjg info_act rfl (by decide) (by decide) w.heap.size (.slice A acc.len cp) acc.len xs u2 ((T31.out.call (Zh w31 (.cells u2.toArray 57))).row _ (List.mem_singleton.2 rfl)) w31.heap.size (Zd.made _ _ _) l2 o2.out (by have:=HM.out;omega) (T31.out.call (Zh w31 (.cells u2.toArray 57))).below.size rfl rfl rfl rfl ?_
   intro v9 w32 o9 g9 at9;have T32:=Hh ((T31.out.call (Zh w31 (.cells u2.toArray 57))).push o9 g9 at9);clear o9 g9 at9)
 |((with_reducible refine Ze 42 ?_);refine Zb 82 _ 82 g4 _ (T32.out.get 4 rfl) Zn (Zf h2.len) rfl rfl rfl ?_)
 |((with_reducible refine Zi 1 42 ?_);refine Za 82 _ _ 82 g0 _ (v2) (T32.out.get 0 rfl) h2.len (Zf h2.len) h2.one rfl rfl rfl rfl rfl ?_
   intro w33 p33;have T33:Hid (Env w [(g0,82,v2),(g1,82,[.slice none 0 0,.int .i64 0,.int .i64 0,.int .i64 0,.int .i64 0,.int .i64 0]),(g2,85,[.int .i64 tv.k,.string tv.t,.int .i64 tv.n,.int .i64 (tv.line:Int),.int .i64 (tv.col:Int)]),(g3,82,v1),(g4,82,v2),(g5,57,u2)] [⟨v9,57,53,acc.len+1,xs++u2⟩] [(acc.ds,xs),(x.ds,u2)] w33):=Hh (T32.out.put 0 rfl p33)
   clear p33))
     (try go_simp)
     go_roundw
     case rel=>
      have hl:(acc.app (.cons x.h x.thn x.els .nil)).len=acc.len+1:=by rw[Acs.len_app];rfl
      have hd:(acc.app (.cons x.h x.thn x.els .nil)).ds=acc.ds.app x.ds:=by rw[Acs.ds_app];show acc.ds.app (x.ds.app .nil)=_;rw[Ds.app_nil]
      first
      |refine⟨m,acc.app (.cons x.h x.thn x.els .nil),xs++u2,x.st,v2,?_,h2,?_,?_,?_,?_,?_⟩
      |(repeat apply Exists.intro;refine⟨⟨m,acc.app (.cons x.h x.thn x.els .nil),xs++u2,x.st,v2,?_,h2,?_,?_,?_,?_,?_⟩,rfl⟩)
      ·rw[hl,hd]
       exact T33.out.join (bs:=[(g0,82,v2),(g1,82,[.slice none 0 0,.int .i64 0,.int .i64 0,.int .i64 0,.int .i64 0,.int .i64 0])]) 0 1 rfl rfl
      ·have:=HM.out;omega
      ·have:=HM.out;omega
      ·rw[hl];have:=HM.out;omega
      ·rw[HE.out,HS.out];dsimp only;rw[Acs.app_assoc];rfl
      ·rw[hl,(T33.out.row _ (List.mem_singleton.2 rfl)).1]
     case measure=>
      have h6:=Zec h2 (T33.out.get 0 rfl);have h7:=HB.out;have:=HM.out;rw[h6,h7];omega
theorem qacts_all:∀ n m:Nat,m≤n→QActsOK m∧Zhz m∧QActOK m:=by
 intro n;induction n with
 |zero=>
  intro m hm;obtain rfl:m=0:=by omega
  exact⟨fun w r K L st vs _ _ hn _=>absurd hn (by omega),fun w r K L st vs _ _ hn _=>absurd hn (by omega),fun w r K L st vs k l c _ _ _ _ hn _=>absurd hn (by omega)⟩
 |succ n ih=>
  intro m hm;by_cases e:m≤n
  ·exact ih m e
  ·obtain rfl:m=n+1:=by omega
   exact⟨qacts _ fun k hk=>(ih k (by omega)).2.2,qblock n (ih n (Nat.le_refl _)).1,qact n (ih n (Nat.le_refl _)).2.1⟩
theorem qActs(w:World)(r K:Nat)(L:List TokV)(st:St)(vs:List Value)(n:Nat)(ho:Ya w r K L)(hp:RPv r K L st vs)(hn:8*Yb L st+8≤n)(hLn:Yb L st≤68719476736) :
 Calls Tryz.prog 62 #[.agg vs.toArray] w (PRo w r K L (Vn 3 L n st).2 (Vn 3 L n st).1.len (Vn 3 L n st).1.ds):=(qacts_all n n (Nat.le_refl _)).1 w r K L st vs ho hp hn hLn
end Go.Proofs.YtljdgdphldckhaaGreat
