/- Parts of the proof. No conditions but those that each names. -/
import Derived.Test.YtbdecchpleiepaaGreatQL40
set_option maxRecDepth 20000
set_option maxHeartbeats 99000000
set_option linter.unusedVariables false
set_option linter.unusedSimpArgs false
namespace Go.Proofs.YtbdecchpleiepaaGreat
open Go.Value renaming int→I,slice→Λ,string→Ψ,oneCell'→Γ
open Go.IntKind renaming i64→J
open _root_.Go.Proofs.Tryz renaming prog→Φ
open And renaming intro→ζ
open Go.Ending renaming returned→η
open Go.ChangeShapes Go.WideShapes Go.ChangeAt Go.RowKit
def remB(g n:Nat)(w:World):Nat:=
 match w.cell? ⟨g,3,none⟩,w.cell? ⟨g,1,none⟩with
 |some (.int _ e),some (.int _ a)=>if e=0 then n - a.toNat else 0
 |_,_=>0
theorem Jg{w:World}{g r K:Nat}{L:List TokV}{st:St}{vs:List Value}{t:TypeId}(h:RPv r K L st vs)(hw:Zi w g t vs.toArray):remB g L.length w=Zx L st:=by
 cases st with
 |ok a d=>
  obtain⟨n,hn,rfl,ha,hd⟩:=h.ok;obtain⟨c0,c1,c2,c3,c4,c5⟩:=Xu hw;unfold remB;rw[c3,c1];rfl
 |bad F=>
  obtain⟨A,n,k,a,d,rfl,hd,hF⟩:=h.bad;obtain⟨c0,c1,c2,c3,c4,c5⟩:=Xu hw;unfold remB;rw[c3,c1];exact if_neg hF
def FPo(w:World)(r K:Nat)(L:List TokV)(x:List Fl×St)(e:Ending)(w':World):Prop:=
 ∃(v:Value)(vs:List Value),e=η (.tuple #[.agg vs.toArray,v])∧RPv r K L x.2 vs∧w'.ownsRow w.heap.size 200 4 v x.1.length (Zib x.1)∧Below w.heap.size w w'
theorem z_fl:(Tryz.prog.info? 200).map (fun i=>i.zero.map Value.cells)=some (some ([I J 0,I J 0,I J 0,Ψ ⟨#[]⟩]:List Value).toArray):=by kernel_rfl
theorem Znw(nk:Int)(L:List TokV)(m:Nat)(F:Int×Nat×Nat):Yk nk L (m+1) (.bad F)=([],.bad F):=Zmd nk L m _ rfl
theorem qfilters(w:World)(r K:Nat)(L:List TokV)(st:St)(vs:List Value)(n:Nat)(ho:Zu w r K L)(hp:RPv r K L st vs)(hn:Zx L st+1≤n)(hLn:Zx L st≤68719476736) :
  Calls Φ 117 #[.agg vs.toArray] w (FPo w r K L (Yk 3 L n st)):=by
 have T0:=Hh (Env.start w);have HN:=Hh hn;have HL:=Hh hLn;clear hn hLn;go_enter Tryz.func117,Tryz.ntmps117;go_wp2_with(first
 |((with_reducible refine Zd 1 ?_);refine Zf T0.out 51 _ (vs) rfl rfl rfl ?_;intro w1 g0 t1
   have T1:=Hh (t1);clear t1)
 |((with_reducible refine Zd 2 ?_);refine Zb T1.out 51 _ rfl rfl z_P ?_;intro w2 g1 t2
   have T2:Hid (Env w [(g0,51,vs),(g1,51,[Λ none 0 0,I J 0,I J 0,I J 0,I J 0,I J 0])] [] [] w2):=Hh (t2);clear t2))
 go_loopw [4] (fun v wr=>∃(m:Nat)(acc:List Fl)(s:St)(us:List Value),Env w [(g0,51,us),(g1,51,[Λ none 0 0,I J 0,I J 0,I J 0,I J 0,I J 0])] [⟨v,200,4,acc.length,Zib acc⟩] [] wr∧RPv r K L s us∧Zx L s+1≤m∧acc.length+Zx L s≤Zx L st∧Yk 3 L n st=(acc++(Yk 3 L m s).1,(Yk 3 L m s).2)) (fun _ wr=>remB g0 L.length wr)
 case atStart=>exact⟨n,[],st,vs,T2.out.row1 200 4,hp,HN.out,by simp,by simp⟩
 case round=>
  obtain⟨m,acc,s,us,hT,hs,hm,hacc,heq⟩:=hrel;obtain⟨m,rfl⟩:∃ m',m=m'+1:=⟨m - 1,by omega⟩
  obtain⟨A,cp,rfl,_,_,_⟩:=Yx (show World.ownsRow _ w.heap.size 200 4 _ acc.length (Zib acc)from hT.row _ (List.mem_singleton.2 rfl));have hrem:=Jg hs (hT.get 0 rfl);clear hp;cases s with
  |bad F=>
    obtain⟨SA,sn,sk,a,d,rfl,hd,hF⟩:=hs.bad;obtain⟨f0,f1,f2⟩:=F;have z0:(f0 == 0)=false:=by rw[beq_eq_false_iff_ne];exact hF
    obtain⟨c0,c1,c2,c3,c4,c5⟩:=Xu (hT.get 0 rfl);have T20:=Hh hT;have HE:=Hh heq;have HF:=Hh hF;clear hT hs hm hacc heq hrem hF;go_wp2_with(first
 |((with_reducible refine Zd 65 ?_);refine Zc 51 _ 51 g0 _ (T20.out.get 0 rfl) Zm Yc rfl rfl rfl ?_)
 |((with_reducible refine Zg 2 65 ?_);refine Za 51 _ _ 51 g1 _ ([Λ SA sn sk,I J (a:Int),I J (d:Int),I J f0,I J (f1:Int),I J (f2:Int)]) (T20.out.get 1 rfl) rfl Yc (by simp[Γ]) rfl rfl rfl rfl rfl ?_
   intro w21 p21;have T21:Hid (Env w [(g0,51,[Λ SA sn sk,I J (a:Int),I J (d:Int),I J f0,I J (f1:Int),I J (f2:Int)]),(g1,51,[Λ SA sn sk,I J (a:Int),I J (d:Int),I J f0,I J (f1:Int),I J (f2:Int)])] [⟨Λ A acc.length cp,200,4,acc.length,Zib acc⟩] [] w21):=Hh (T20.out.put 1 rfl p21)
   clear p21))
    refine Xd 2 51 3 51 _ _ _ rfl (T21.out.get 1 rfl) Zm Yc rfl rfl rfl ?_;refine⟨Λ A acc.length cp,[Λ SA sn sk,I J (a:Int),I J (d:Int),I J f0,I J (f1:Int),I J (f2:Int)],rfl,?_,?_,T21.out.below⟩
    ·rw[HE.out,Znw];exact RPv.mkBad (F:=(f0,f1,f2)) _ _ _ _ _ hd HF.out
    ·rw[HE.out,Znw];simpa using T21.out.row _ (List.mem_singleton.2 rfl)
  |ok a d=>
    obtain⟨sn,hsn,rfl,ha,hd⟩:=hs.ok;obtain⟨c0,c1,c2,c3,c4,c5⟩:=Xu (hT.get 0 rfl);have hf:=fun(x:World)(hx:Env w [(g0,51,[Λ (some ⟨r,0,none⟩) sn K,I J (a:Int),I J (d:Int),I J 0,I J 0,I J 0]),(g1,51,[Λ none 0 0,I J 0,I J 0,I J 0,I J 0,I J 0])] [⟨Λ A acc.length cp,200,4,acc.length,Zib acc⟩] [] x)=>Zlr x r K _ L (.ok a d) [Λ (some ⟨r,0,none⟩) sn K,I J (a:Int),I J (d:Int),I J 0,I J 0,I J 0] Wt 4 4 _ rfl rfl (ho.below hx.below) hs rfl (by decide)
    have hf:=hf _ hT;have hle:=Zen L Wt (.ok a d);have hfr:=Vt (L:=L) (ws:=Wt) (st:=.ok a d);have hfn:=Uh L (ws:=Wt) (st:=.ok a d);have hst:=filters_step 3 L m (.ok a d);have hsp:=Zmd 3 L m (.ok a d);have hrf:=rem_filter L 3 (Zk L Wt (.ok a d)) (Ye L Wt (.ok a d));generalize hk:Zk L Wt (.ok a d)=k at *;generalize hs1:Ye L Wt (.ok a d)=s1 at *;have T20:=Hh hT;have HA:=Hh (ζ hacc (ζ hm hfr));have HB:=Hh hrem;have HE:=Hh heq;have HS:=Hh (ζ hst (ζ hsp (ζ hfn hrf)));have HG:=Hh hs;clear hT hs hm hacc heq hrem hfr hst hsp hfn hrf hk hs1 hsn;have hle4:k≤4:=hle;clear hle;have h5:k=0∨k=1∨k=2∨k=3∨k=4:=by omega
    clear hle4;rcases h5 with rfl | rfl | rfl | rfl | rfl
    ·rw[show((0:Nat):Int)=0 from rfl]at hf
     go_wp2_with(first
 |((with_reducible refine Zd 15 ?_);refine Zc 51 _ 51 g0 _ (T20.out.get 0 rfl) Zm Yc rfl rfl rfl ?_)
 |(go_at_call 18;refine hf.mono ?_;rintro e w21 ⟨v1,rfl,h1,b21⟩
   have T21:=Hh (T20.out.call b21);clear b21)
 |((with_reducible refine Zd 5 ?_);refine Zb T21.out 51 _ rfl rfl z_P ?_;intro w22 g2 t22
   have T22:=Hh (t22);clear t22)
 |((with_reducible refine Zg 5 18 ?_);refine Za 51 _ _ 51 g2 _ (v1) (T22.out.get 2 rfl) h1.len (Ze h1.len) h1.one rfl rfl rfl rfl rfl ?_
   intro w23 p23;have T23:=Hh (T22.out.put 2 rfl p23);clear p23)
 |((with_reducible refine Zd 22 ?_);refine Zc 51 _ 51 g2 _ (T23.out.get 2 rfl) Zm (Ze h1.len) rfl rfl rfl ?_)
 |((with_reducible refine Zg 2 22 ?_);refine Za 51 _ _ 51 g1 _ (v1) (T23.out.get 1 rfl) h1.len (Ze h1.len) h1.one rfl rfl rfl rfl rfl ?_
   intro w24 p24;have T24:Hid (Env w [(g0,51,[Λ (some ⟨r,0,none⟩) sn K,I J (a:Int),I J (d:Int),I J 0,I J 0,I J 0]),(g1,51,v1),(g2,51,v1)] [⟨Λ A acc.length cp,200,4,acc.length,Zib acc⟩] [] w24):=Hh (T23.out.put 1 rfl p24)
   clear p24))
     refine Xd 2 51 3 51 _ _ _ rfl (T24.out.get 1 rfl) Zm (Ze h1.len) rfl rfl rfl ?_;have hs:=HS.out.2.2.1 (by first | rfl | trivial);refine⟨Λ A acc.length cp,v1,rfl,?_,?_,T24.out.below⟩
     ·rw[HE.out,HS.out.2.1 (by first | rfl | trivial)]
      rw[hs]at h1;exact h1
     ·rw[HE.out,HS.out.2.1 (by first | rfl | trivial)];simpa using T24.out.row _ (List.mem_singleton.2 rfl)
    ·rw[show((1:Nat):Int)=1 from rfl]at hf
     have HF:=Hh (show Js 3 L 1 s1=((⟨1,Zk L wOp s1,Zeh L (Zn L wOp s1),⟨#[]⟩⟩:Fl),Zbe L (Zn L wOp s1))from rfl);generalize hop:Zk L wOp s1=op at *;generalize hs2:Zn L wOp s1=s2 at *;generalize hsg:Zeh L s2=sg at *;have hopc:∀(x:World)(us:List Value),Zu x r K L→RPv r K L s1 us→Calls Φ 95 #[.agg us.toArray] x (PVo x r K L s2 (I J (op:Int))):=fun x us h1 h2=>by rw[←hop,←hs2];exact qop x r K L s1 us h1 h2
     have hrd:∀(x:World)(us:List Value),Zu x r K L→RPv r K L s2 us→Calls Φ 22 #[.agg us.toArray] x (PVo x r K L (Zbe L s2) (I J sg)):=fun x us h1 h2=>by rw[←hsg];exact Zlq x r K L s2 us h1 h2
     clear hop hs2 hsg;go_wp2_with(first
 |((with_reducible refine Zd 15 ?_);refine Zc 51 _ 51 g0 _ (T20.out.get 0 rfl) Zm Yc rfl rfl rfl ?_)
 |(go_at_call 18;refine hf.mono ?_;rintro e w21 ⟨v1,rfl,h1,b21⟩
   have T21:=Hh (T20.out.call b21);clear b21)
 |((with_reducible refine Zd 5 ?_);refine Zb T21.out 51 _ rfl rfl z_P ?_;intro w22 g2 t22
   have T22:=Hh (t22);clear t22)
 |((with_reducible refine Zg 5 18 ?_);refine Za 51 _ _ 51 g2 _ (v1) (T22.out.get 2 rfl) h1.len (Ze h1.len) h1.one rfl rfl rfl rfl rfl ?_
   intro w23 p23;have T23:=Hh (T22.out.put 2 rfl p23);clear p23)
 |((with_reducible refine Zd 7 ?_);refine Zb T23.out 200 _ rfl rfl z_fl ?_;intro w24 g3 t24
   have T24:=Hh (t24);clear t24)
 |((with_reducible refine Zg 7 25 ?_);refine Za 200 _ _ 200 g3 _ ([I J 1,I J 0,I J 0,Ψ ⟨#[]⟩]) (T24.out.get 3 rfl) rfl Zfx (by simp[Γ]) rfl rfl rfl rfl rfl ?_
   intro w25 p25;have T25:=Hh (T24.out.put 3 rfl p25);clear p25)
 |((with_reducible refine Zd 29 ?_);refine Zc 51 _ 51 g2 _ (T25.out.get 2 rfl) Zm (Ze h1.len) rfl rfl rfl ?_)
 |(go_at_call 95;refine(hopc _ v1 (ho.below T25.out.below) h1).mono ?_;rintro e w26 ⟨v2,rfl,h2,b26⟩
   have T26:=Hh (T25.out.call b26);clear b26)
 |((with_reducible refine Zg 5 31 ?_);refine Za 51 _ _ 51 g2 _ (v2) (T26.out.get 2 rfl) (h2.len.trans h1.len.symm) (Ze h2.len) h2.one rfl rfl rfl rfl rfl ?_
   intro w27 p27;have T27:=Hh (T26.out.put 2 rfl p27);clear p27)
 |((with_reducible refine Zg 33 32 ?_);refine Zp 3 _ _ 200 g3 1 [I J 1] (I J 0) (I J (op:Int)) [I J 0,Ψ ⟨#[]⟩] (T27.out.get 3 rfl) rfl Yw rfl rfl rfl rfl rfl rfl ?_
   intro w28 p28;have T28:=Hh (T27.out.put 3 rfl p28);clear p28)
 |((with_reducible refine Zd 35 ?_);refine Zc 51 _ 51 g2 _ (T28.out.get 2 rfl) Zm (Ze h2.len) rfl rfl rfl ?_)
 |(go_at_call 22;refine(hrd _ v2 (ho.below T28.out.below) h2).mono ?_;rintro e w29 ⟨v3,rfl,h3,b29⟩
   have T29:=Hh (T28.out.call b29);clear b29)
 |((with_reducible refine Zg 5 37 ?_);refine Za 51 _ _ 51 g2 _ (v3) (T29.out.get 2 rfl) (h3.len.trans h2.len.symm) (Ze h3.len) h3.one rfl rfl rfl rfl rfl ?_
   intro w30 p30;have T30:=Hh (T29.out.put 2 rfl p30);clear p30)
 |((with_reducible refine Zg 39 38 ?_);refine Zp 3 _ _ 200 g3 2 [I J 1,I J (op:Int)] (I J 0) (I J sg) [Ψ ⟨#[]⟩] (T30.out.get 3 rfl) rfl Yw rfl rfl rfl rfl rfl rfl ?_
   intro w31 p31;have T31:=Hh (T30.out.put 3 rfl p31);clear p31)
 |((with_reducible refine Zd 61 ?_);refine Zc 200 _ 200 g3 _ (T31.out.get 3 rfl) row_fl Zfx rfl rfl rfl ?_)
 |(at_builtin;refine Wf (.tmp 60) (.tmp 62) 74 200 4 40 _ Zog Zoq rfl (by decide) (by decide) w.heap.size (Λ A acc.length cp) acc.length (Zib acc) [I J 1,I J (op:Int),I J sg,Ψ ⟨#[]⟩] ((T31.out.call (Zh w31 (.cells [I J 1,I J (op:Int),I J sg,Ψ ⟨#[]⟩].toArray 200))).row _ (List.mem_singleton.2 rfl)) w31.heap.size (Zi.made _ _ _) rfl (by simp[Γ]) (by have:=HA.out.1;have:=HL.out;omega) (T31.out.call (Zh w31 (.cells [I J 1,I J (op:Int),I J sg,Ψ ⟨#[]⟩].toArray 200))).below.size rfl rfl rfl rfl ?_
   intro v9 w32 o9 g9 at9;have T32:=Hh ((T31.out.call (Zh w31 (.cells [I J 1,I J (op:Int),I J sg,Ψ ⟨#[]⟩].toArray 200))).push o9 g9 at9);clear o9 g9 at9)
 |((with_reducible refine Zd 64 ?_);refine Zc 51 _ 51 g2 _ (T32.out.get 2 rfl) Zm (Ze h3.len) rfl rfl rfl ?_)
 |((with_reducible refine Zg 1 64 ?_);refine Za 51 _ _ 51 g0 _ (v3) (T32.out.get 0 rfl) h3.len (Ze h3.len) h3.one rfl rfl rfl rfl rfl ?_
   intro w33 p33;have T33:Hid (Env w [(g0,51,v3),(g1,51,[Λ none 0 0,I J 0,I J 0,I J 0,I J 0,I J 0]),(g2,51,v3),(g3,200,[I J 1,I J (op:Int),I J sg,Ψ ⟨#[]⟩])] [⟨v9,200,4,acc.length+1,Zib acc++[I J 1,I J (op:Int),I J sg,Ψ ⟨#[]⟩]⟩] [] w33):=Hh (T32.out.put 0 rfl p33)
   clear p33))
     go_roundw
     case rel=>
      have h4:=HS.out.2.2.2;rw[HF.out]at h4;dsimp only at h4;have h5:=HA.out.2.2 (by decide);repeat apply Exists.intro
      refine⟨⟨m,acc++[⟨1,op,sg,⟨#[]⟩⟩],Zbe L s2,v3,?_,h3,?_,?_,?_⟩,rfl⟩
      ·rw[List.length_append,Zjr];exact T33.out.less (bs:=[(g0,51,v3),(g1,51,[Λ none 0 0,I J 0,I J 0,I J 0,I J 0,I J 0])]) (ts:=[]) (us:=[])
      ·have:=HA.out.2.1;omega
      ·have:=HA.out.1;rw[List.length_append];simp only[List.length_cons,List.length_nil];omega
      ·rw[HE.out,HS.out.1 (by decide),HF.out];simp
     case measure=>
      have h4:=HS.out.2.2.2;rw[HF.out]at h4;dsimp only at h4;have h5:=HA.out.2.2 (by decide);have h6:=Jg h3 (T33.out.get 0 rfl);have h7:=HB.out;rw[h6,h7];omega
    ·rw[show((2:Nat):Int)=2 from rfl]at hf
     have HF:=Hh (show Js 3 L 2 s1=((⟨2,Zk L wOp s1,Zeh L (Zn L wOp s1),⟨#[]⟩⟩:Fl),Zbe L (Zn L wOp s1))from rfl);generalize hop:Zk L wOp s1=op at *;generalize hs2:Zn L wOp s1=s2 at *;generalize hsg:Zeh L s2=sg at *;have hopc:∀(x:World)(us:List Value),Zu x r K L→RPv r K L s1 us→Calls Φ 95 #[.agg us.toArray] x (PVo x r K L s2 (I J (op:Int))):=fun x us h1 h2=>by rw[←hop,←hs2];exact qop x r K L s1 us h1 h2
     have hrd:∀(x:World)(us:List Value),Zu x r K L→RPv r K L s2 us→Calls Φ 22 #[.agg us.toArray] x (PVo x r K L (Zbe L s2) (I J sg)):=fun x us h1 h2=>by rw[←hsg];exact Zlq x r K L s2 us h1 h2
     clear hop hs2 hsg;go_wp2_with(first
 |((with_reducible refine Zd 15 ?_);refine Zc 51 _ 51 g0 _ (T20.out.get 0 rfl) Zm Yc rfl rfl rfl ?_)
 |(go_at_call 18;refine hf.mono ?_;rintro e w21 ⟨v1,rfl,h1,b21⟩
   have T21:=Hh (T20.out.call b21);clear b21)
 |((with_reducible refine Zd 5 ?_);refine Zb T21.out 51 _ rfl rfl z_P ?_;intro w22 g2 t22
   have T22:=Hh (t22);clear t22)
 |((with_reducible refine Zg 5 18 ?_);refine Za 51 _ _ 51 g2 _ (v1) (T22.out.get 2 rfl) h1.len (Ze h1.len) h1.one rfl rfl rfl rfl rfl ?_
   intro w23 p23;have T23:=Hh (T22.out.put 2 rfl p23);clear p23)
 |((with_reducible refine Zd 7 ?_);refine Zb T23.out 200 _ rfl rfl z_fl ?_;intro w24 g3 t24
   have T24:=Hh (t24);clear t24)
 |((with_reducible refine Zg 7 25 ?_);refine Za 200 _ _ 200 g3 _ ([I J 2,I J 0,I J 0,Ψ ⟨#[]⟩]) (T24.out.get 3 rfl) rfl Zfx (by simp[Γ]) rfl rfl rfl rfl rfl ?_
   intro w25 p25;have T25:=Hh (T24.out.put 3 rfl p25);clear p25)
 |((with_reducible refine Zd 29 ?_);refine Zc 51 _ 51 g2 _ (T25.out.get 2 rfl) Zm (Ze h1.len) rfl rfl rfl ?_)
 |(go_at_call 95;refine(hopc _ v1 (ho.below T25.out.below) h1).mono ?_;rintro e w26 ⟨v2,rfl,h2,b26⟩
   have T26:=Hh (T25.out.call b26);clear b26)
 |((with_reducible refine Zg 5 31 ?_);refine Za 51 _ _ 51 g2 _ (v2) (T26.out.get 2 rfl) (h2.len.trans h1.len.symm) (Ze h2.len) h2.one rfl rfl rfl rfl rfl ?_
   intro w27 p27;have T27:=Hh (T26.out.put 2 rfl p27);clear p27)
 |((with_reducible refine Zg 33 32 ?_);refine Zp 3 _ _ 200 g3 1 [I J 2] (I J 0) (I J (op:Int)) [I J 0,Ψ ⟨#[]⟩] (T27.out.get 3 rfl) rfl Yw rfl rfl rfl rfl rfl rfl ?_
   intro w28 p28;have T28:=Hh (T27.out.put 3 rfl p28);clear p28)
 |((with_reducible refine Zd 35 ?_);refine Zc 51 _ 51 g2 _ (T28.out.get 2 rfl) Zm (Ze h2.len) rfl rfl rfl ?_)
 |(go_at_call 22;refine(hrd _ v2 (ho.below T28.out.below) h2).mono ?_;rintro e w29 ⟨v3,rfl,h3,b29⟩
   have T29:=Hh (T28.out.call b29);clear b29)
 |((with_reducible refine Zg 5 37 ?_);refine Za 51 _ _ 51 g2 _ (v3) (T29.out.get 2 rfl) (h3.len.trans h2.len.symm) (Ze h3.len) h3.one rfl rfl rfl rfl rfl ?_
   intro w30 p30;have T30:=Hh (T29.out.put 2 rfl p30);clear p30)
 |((with_reducible refine Zg 39 38 ?_);refine Zp 3 _ _ 200 g3 2 [I J 2,I J (op:Int)] (I J 0) (I J sg) [Ψ ⟨#[]⟩] (T30.out.get 3 rfl) rfl Yw rfl rfl rfl rfl rfl rfl ?_
   intro w31 p31;have T31:=Hh (T30.out.put 3 rfl p31);clear p31)
 |((with_reducible refine Zd 61 ?_);refine Zc 200 _ 200 g3 _ (T31.out.get 3 rfl) row_fl Zfx rfl rfl rfl ?_)
 |(at_builtin;refine Wf (.tmp 60) (.tmp 62) 74 200 4 40 _ Zog Zoq rfl (by decide) (by decide) w.heap.size (Λ A acc.length cp) acc.length (Zib acc) [I J 2,I J (op:Int),I J sg,Ψ ⟨#[]⟩] ((T31.out.call (Zh w31 (.cells [I J 2,I J (op:Int),I J sg,Ψ ⟨#[]⟩].toArray 200))).row _ (List.mem_singleton.2 rfl)) w31.heap.size (Zi.made _ _ _) rfl (by simp[Γ]) (by have:=HA.out.1;have:=HL.out;omega) (T31.out.call (Zh w31 (.cells [I J 2,I J (op:Int),I J sg,Ψ ⟨#[]⟩].toArray 200))).below.size rfl rfl rfl rfl ?_
   intro v9 w32 o9 g9 at9;have T32:=Hh ((T31.out.call (Zh w31 (.cells [I J 2,I J (op:Int),I J sg,Ψ ⟨#[]⟩].toArray 200))).push o9 g9 at9);clear o9 g9 at9)
 |((with_reducible refine Zd 64 ?_);refine Zc 51 _ 51 g2 _ (T32.out.get 2 rfl) Zm (Ze h3.len) rfl rfl rfl ?_)
 |((with_reducible refine Zg 1 64 ?_);refine Za 51 _ _ 51 g0 _ (v3) (T32.out.get 0 rfl) h3.len (Ze h3.len) h3.one rfl rfl rfl rfl rfl ?_
   intro w33 p33;have T33:Hid (Env w [(g0,51,v3),(g1,51,[Λ none 0 0,I J 0,I J 0,I J 0,I J 0,I J 0]),(g2,51,v3),(g3,200,[I J 2,I J (op:Int),I J sg,Ψ ⟨#[]⟩])] [⟨v9,200,4,acc.length+1,Zib acc++[I J 2,I J (op:Int),I J sg,Ψ ⟨#[]⟩]⟩] [] w33):=Hh (T32.out.put 0 rfl p33)
   clear p33))
     go_roundw
     case rel=>
      have h4:=HS.out.2.2.2;rw[HF.out]at h4;dsimp only at h4;have h5:=HA.out.2.2 (by decide);repeat apply Exists.intro
      refine⟨⟨m,acc++[⟨2,op,sg,⟨#[]⟩⟩],Zbe L s2,v3,?_,h3,?_,?_,?_⟩,rfl⟩
      ·rw[List.length_append,Zjr];exact T33.out.less (bs:=[(g0,51,v3),(g1,51,[Λ none 0 0,I J 0,I J 0,I J 0,I J 0,I J 0])]) (ts:=[]) (us:=[])
      ·have:=HA.out.2.1;omega
      ·have:=HA.out.1;rw[List.length_append];simp only[List.length_cons,List.length_nil];omega
      ·rw[HE.out,HS.out.1 (by decide),HF.out];simp
     case measure=>
      have h4:=HS.out.2.2.2;rw[HF.out]at h4;dsimp only at h4;have h5:=HA.out.2.2 (by decide);have h6:=Jg h3 (T33.out.get 0 rfl);have h7:=HB.out;rw[h6,h7];omega
    ·rw[show((3:Nat):Int)=3 from rfl]at hf
     have HF:=Hh (show Js 3 L 3 s1=((⟨3,0,0,Zct L s1⟩:Fl),Wp L s1)from rfl);generalize hnm:Zct L s1=nm at *;have hrd:∀(x:World)(us:List Value),Zu x r K L→RPv r K L s1 us→Calls Φ 19 #[.agg us.toArray] x (PVo x r K L (Wp L s1) (Ψ nm)):=fun x us h1 h2=>by rw[←hnm];exact qname x r K L s1 us h1 h2
     clear hnm;go_wp2_with(first
 |((with_reducible refine Zd 15 ?_);refine Zc 51 _ 51 g0 _ (T20.out.get 0 rfl) Zm Yc rfl rfl rfl ?_)
 |(go_at_call 18;refine hf.mono ?_;rintro e w21 ⟨v1,rfl,h1,b21⟩
   have T21:=Hh (T20.out.call b21);clear b21)
 |((with_reducible refine Zd 5 ?_);refine Zb T21.out 51 _ rfl rfl z_P ?_;intro w22 g2 t22
   have T22:=Hh (t22);clear t22)
 |((with_reducible refine Zg 5 18 ?_);refine Za 51 _ _ 51 g2 _ (v1) (T22.out.get 2 rfl) h1.len (Ze h1.len) h1.one rfl rfl rfl rfl rfl ?_
   intro w23 p23;have T23:=Hh (T22.out.put 2 rfl p23);clear p23)
 |((with_reducible refine Zd 7 ?_);refine Zb T23.out 200 _ rfl rfl z_fl ?_;intro w24 g3 t24
   have T24:=Hh (t24);clear t24)
 |((with_reducible refine Zg 7 25 ?_);refine Za 200 _ _ 200 g3 _ ([I J 3,I J 0,I J 0,Ψ ⟨#[]⟩]) (T24.out.get 3 rfl) rfl Zfx (by simp[Γ]) rfl rfl rfl rfl rfl ?_
   intro w25 p25;have T25:=Hh (T24.out.put 3 rfl p25);clear p25)
 |((with_reducible refine Zd 43 ?_);refine Zc 51 _ 51 g2 _ (T25.out.get 2 rfl) Zm (Ze h1.len) rfl rfl rfl ?_)
 |(go_at_call 19;refine(hrd _ v1 (ho.below T25.out.below) h1).mono ?_;rintro e w26 ⟨v3,rfl,h3,b26⟩
   have T26:=Hh (T25.out.call b26);clear b26)
 |((with_reducible refine Zg 5 45 ?_);refine Za 51 _ _ 51 g2 _ (v3) (T26.out.get 2 rfl) (h3.len.trans h1.len.symm) (Ze h3.len) h3.one rfl rfl rfl rfl rfl ?_
   intro w27 p27;have T27:=Hh (T26.out.put 2 rfl p27);clear p27)
 |((with_reducible refine Zg 47 46 ?_);refine Zp 9 _ _ 200 g3 3 [I J 3,I J 0,I J 0] (Ψ ⟨#[]⟩) (Ψ nm) [] (T27.out.get 3 rfl) rfl Zij rfl rfl rfl rfl rfl rfl ?_
   intro w28 p28;have T28:=Hh (T27.out.put 3 rfl p28);clear p28)
 |((with_reducible refine Zd 61 ?_);refine Zc 200 _ 200 g3 _ (T28.out.get 3 rfl) row_fl Zfx rfl rfl rfl ?_)
 |(at_builtin;refine Wf (.tmp 60) (.tmp 62) 74 200 4 40 _ Zog Zoq rfl (by decide) (by decide) w.heap.size (Λ A acc.length cp) acc.length (Zib acc) [I J 3,I J 0,I J 0,Ψ nm] ((T28.out.call (Zh w28 (.cells [I J 3,I J 0,I J 0,Ψ nm].toArray 200))).row _ (List.mem_singleton.2 rfl)) w28.heap.size (Zi.made _ _ _) rfl (by simp[Γ]) (by have:=HA.out.1;have:=HL.out;omega) (T28.out.call (Zh w28 (.cells [I J 3,I J 0,I J 0,Ψ nm].toArray 200))).below.size rfl rfl rfl rfl ?_
   intro v9 w29 o9 g9 at9;have T29:=Hh ((T28.out.call (Zh w28 (.cells [I J 3,I J 0,I J 0,Ψ nm].toArray 200))).push o9 g9 at9);clear o9 g9 at9)
 |((with_reducible refine Zd 64 ?_);refine Zc 51 _ 51 g2 _ (T29.out.get 2 rfl) Zm (Ze h3.len) rfl rfl rfl ?_)
 |((with_reducible refine Zg 1 64 ?_);refine Za 51 _ _ 51 g0 _ (v3) (T29.out.get 0 rfl) h3.len (Ze h3.len) h3.one rfl rfl rfl rfl rfl ?_
   intro w30 p30;have T30:Hid (Env w [(g0,51,v3),(g1,51,[Λ none 0 0,I J 0,I J 0,I J 0,I J 0,I J 0]),(g2,51,v3),(g3,200,[I J 3,I J 0,I J 0,Ψ nm])] [⟨v9,200,4,acc.length+1,Zib acc++[I J 3,I J 0,I J 0,Ψ nm]⟩] [] w30):=Hh (T29.out.put 0 rfl p30)
   clear p30))
     go_roundw
     case rel=>
      have h4:=HS.out.2.2.2;rw[HF.out]at h4;dsimp only at h4;have h5:=HA.out.2.2 (by decide);repeat apply Exists.intro
      refine⟨⟨m,acc++[⟨3,0,0,nm⟩],Wp L s1,v3,?_,h3,?_,?_,?_⟩,rfl⟩
      ·rw[List.length_append,Zjr];exact T30.out.less (bs:=[(g0,51,v3),(g1,51,[Λ none 0 0,I J 0,I J 0,I J 0,I J 0,I J 0])]) (ts:=[]) (us:=[])
      ·have:=HA.out.2.1;omega
      ·have:=HA.out.1;rw[List.length_append];simp only[List.length_cons,List.length_nil];omega
      ·rw[HE.out,HS.out.1 (by decide),HF.out];simp
     case measure=>
      have h4:=HS.out.2.2.2;rw[HF.out]at h4;dsimp only at h4;have h5:=HA.out.2.2 (by decide);have h6:=Jg h3 (T30.out.get 0 rfl);have h7:=HB.out;rw[h6,h7];omega
    ·rw[show((4:Nat):Int)=4 from rfl]at hf
     have HF:=Hh (show Js 3 L 4 s1=((⟨3+(Zk L Zeu s1:Int),0,0,⟨#[]⟩⟩:Fl),Zn L Zeu s1)from by
      show((⟨if Zk L Zeu s1=0 then 3 else 3+(Zk L Zeu s1:Int),0,0,⟨#[]⟩⟩:Fl),Zn L Zeu s1)=_;by_cases h:Zk L Zeu s1=0
      ·rw[if_pos h,h];rfl
      ·rw[if_neg h])
     have hme:=Zen L Zeu s1;generalize hop:Zk L Zeu s1=me at *;have hmu:∀(x:World)(us:List Value),Zu x r K L→RPv r K L s1 us→Calls Φ 43 #[.agg us.toArray,Λ (some ⟨x.heap.size,0,none⟩) 2 2] (x.alloc (.cells #[Ψ ⟨#[109,101]⟩,Ψ ⟨#[105,116]⟩] 9)) (PVo x r K L (Zn L Zeu s1) (I J (me:Int))):=fun x us h1 h2=>by rw[←hop];exact Zer x r K _ L s1 us Zeu 2 2 _ rfl rfl h1 h2 rfl (by decide)
     have hme2:(me:Int)≤2:=by have:me≤2:=hme;omega
     have hme0:(0:Int)≤(me:Int):=by omega
     clear hop hme;go_wp2_with(first
 |((with_reducible refine Zd 15 ?_);refine Zc 51 _ 51 g0 _ (T20.out.get 0 rfl) Zm Yc rfl rfl rfl ?_)
 |(go_at_call 18;refine hf.mono ?_;rintro e w21 ⟨v1,rfl,h1,b21⟩
   have T21:=Hh (T20.out.call b21);clear b21)
 |((with_reducible refine Zd 5 ?_);refine Zb T21.out 51 _ rfl rfl z_P ?_;intro w22 g2 t22
   have T22:=Hh (t22);clear t22)
 |((with_reducible refine Zg 5 18 ?_);refine Za 51 _ _ 51 g2 _ (v1) (T22.out.get 2 rfl) h1.len (Ze h1.len) h1.one rfl rfl rfl rfl rfl ?_
   intro w23 p23;have T23:=Hh (T22.out.put 2 rfl p23);clear p23)
 |((with_reducible refine Zd 7 ?_);refine Zb T23.out 200 _ rfl rfl z_fl ?_;intro w24 g3 t24
   have T24:=Hh (t24);clear t24)
 |((with_reducible refine Zg 7 25 ?_);refine Za 200 _ _ 200 g3 _ ([I J 4,I J 0,I J 0,Ψ ⟨#[]⟩]) (T24.out.get 3 rfl) rfl Zfx (by simp[Γ]) rfl rfl rfl rfl rfl ?_
   intro w25 p25;have T25:=Hh (T24.out.put 3 rfl p25);clear p25)
 |((with_reducible refine Zd 51 ?_);refine Zc 51 _ 51 g2 _ (T25.out.get 2 rfl) Zm (Ze h1.len) rfl rfl rfl ?_)
 |(go_at_call 43;refine(hmu _ v1 (ho.below T25.out.below) h1).mono ?_;rintro e w26 ⟨v3,rfl,h3,b26⟩
   have T26:=Hh (T25.out.call b26);clear b26)
 |((with_reducible refine Zd 8 ?_);refine Zb T26.out 51 _ rfl rfl z_P ?_;intro w27 g4 t27
   have T27:=Hh (t27);clear t27)
 |((with_reducible refine Zg 8 54 ?_);refine Za 51 _ _ 51 g4 _ (v3) (T27.out.get 4 rfl) h3.len (Ze h3.len) h3.one rfl rfl rfl rfl rfl ?_
   intro w28 p28;have T28:=Hh (T27.out.put 4 rfl p28);clear p28)
 |((with_reducible refine Zd 56 ?_);refine Zc 51 _ 51 g4 _ (T28.out.get 4 rfl) Zm (Ze h3.len) rfl rfl rfl ?_)
 |((with_reducible refine Zg 5 56 ?_);refine Za 51 _ _ 51 g2 _ (v3) (T28.out.get 2 rfl) (h3.len.trans h1.len.symm) (Ze h3.len) h3.one rfl rfl rfl rfl rfl ?_
   intro w29 p29;have T29:=Hh (T28.out.put 2 rfl p29);clear p29)
 |((with_reducible refine Zg 59 58 ?_);refine Zp 3 _ _ 200 g3 0 [] (I J 4) (I J (3+(me:Int))) [I J 0,I J 0,Ψ ⟨#[]⟩] (T29.out.get 3 rfl) rfl Yw rfl rfl rfl rfl rfl rfl ?_
   intro w30 p30;have T30:=Hh (T29.out.put 3 rfl p30);clear p30)
 |((with_reducible refine Zd 61 ?_);refine Zc 200 _ 200 g3 _ (T30.out.get 3 rfl) row_fl Zfx rfl rfl rfl ?_)
 |(at_builtin;refine Wf (.tmp 60) (.tmp 62) 74 200 4 40 _ Zog Zoq rfl (by decide) (by decide) w.heap.size (Λ A acc.length cp) acc.length (Zib acc) [I J (3+(me:Int)),I J 0,I J 0,Ψ ⟨#[]⟩] ((T30.out.call (Zh w30 (.cells [I J (3+(me:Int)),I J 0,I J 0,Ψ ⟨#[]⟩].toArray 200))).row _ (List.mem_singleton.2 rfl)) w30.heap.size (Zi.made _ _ _) rfl (by simp[Γ]) (by have:=HA.out.1;have:=HL.out;omega) (T30.out.call (Zh w30 (.cells [I J (3+(me:Int)),I J 0,I J 0,Ψ ⟨#[]⟩].toArray 200))).below.size rfl rfl rfl rfl ?_
   intro v9 w31 o9 g9 at9;have T31:=Hh ((T30.out.call (Zh w30 (.cells [I J (3+(me:Int)),I J 0,I J 0,Ψ ⟨#[]⟩].toArray 200))).push o9 g9 at9);clear o9 g9 at9)
 |((with_reducible refine Zd 64 ?_);refine Zc 51 _ 51 g2 _ (T31.out.get 2 rfl) Zm (Ze h3.len) rfl rfl rfl ?_)
 |((with_reducible refine Zg 1 64 ?_);refine Za 51 _ _ 51 g0 _ (v3) (T31.out.get 0 rfl) h3.len (Ze h3.len) h3.one rfl rfl rfl rfl rfl ?_
   intro w32 p32;have T32:Hid (Env w [(g0,51,v3),(g1,51,[Λ none 0 0,I J 0,I J 0,I J 0,I J 0,I J 0]),(g2,51,v3),(g3,200,[I J (3+(me:Int)),I J 0,I J 0,Ψ ⟨#[]⟩]),(g4,51,v3)] [⟨v9,200,4,acc.length+1,Zib acc++[I J (3+(me:Int)),I J 0,I J 0,Ψ ⟨#[]⟩]⟩] [] w32):=Hh (T31.out.put 0 rfl p32)
   clear p32))
     go_roundw
     case rel=>
      have h4:=HS.out.2.2.2;rw[HF.out]at h4;dsimp only at h4;have h5:=HA.out.2.2 (by decide);repeat apply Exists.intro
      refine⟨⟨m,acc++[⟨3+(me:Int),0,0,⟨#[]⟩⟩],Zn L Zeu s1,v3,?_,h3,?_,?_,?_⟩,rfl⟩
      ·rw[List.length_append,Zjr];exact T32.out.less (bs:=[(g0,51,v3),(g1,51,[Λ none 0 0,I J 0,I J 0,I J 0,I J 0,I J 0])]) (ts:=[]) (us:=[])
      ·have:=HA.out.2.1;omega
      ·have:=HA.out.1;rw[List.length_append];simp only[List.length_cons,List.length_nil];omega
      ·rw[HE.out,HS.out.1 (by decide),HF.out];simp
     case measure=>
      have h4:=HS.out.2.2.2;rw[HF.out]at h4;dsimp only at h4;have h5:=HA.out.2.2 (by decide);have h6:=Jg h3 (T32.out.get 0 rfl);have h7:=HB.out;rw[h6,h7];omega
end Go.Proofs.YtbdecchpleiepaaGreat
