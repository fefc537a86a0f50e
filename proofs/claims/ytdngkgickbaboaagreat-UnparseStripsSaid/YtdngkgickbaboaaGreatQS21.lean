/-
  No conditions but those that each theorem names.
-/
import Derived.Test.YtdngkgickbaboaaGreatQS20
set_option maxRecDepth 20000
set_option maxHeartbeats 12800000
namespace Go.Proofs.YtdngkgickbaboaaGreat
open Go.ChangeShapes Go.WideShapes Go.ChangeAt Go.RowKit
set_option linter.unusedVariables false
set_option linter.unusedSimpArgs false
def remB(g n:Nat)(w:World):Nat:=
 match w.cell? ⟨g,3,none⟩,w.cell? ⟨g,1,none⟩with
 |some (.int _ e),some (.int _ a)=>if e=0 then n - a.toNat else 0
 |_,_=>0
theorem Je{w:World}{g r K:Nat}{L:List TokV}{st:St}{vs:List Value}{t:TypeId}(h:RPv r K L st vs)(hw:Zf w g t vs.toArray):remB g L.length w=Zu L st:=by
 cases st with
 |ok a d=>
  obtain⟨n,hn,rfl,ha,hd⟩:=h.ok;obtain⟨c0,c1,c2,c3,c4,c5⟩:=Xs hw;unfold remB;rw[c3,c1];rfl
 |bad F=>
  obtain⟨A,n,k,a,d,rfl,hd,hF⟩:=h.bad;obtain⟨c0,c1,c2,c3,c4,c5⟩:=Xs hw;unfold remB;rw[c3,c1];exact if_neg hF
def FPo(w:World)(r K:Nat)(L:List TokV)(x:List Fl×St)(e:Ending)(w':World):Prop:=
 ∃(v:Value)(vs:List Value),e=.returned (.tuple #[.agg vs.toArray,v])∧RPv r K L x.2 vs∧w'.ownsRow w.heap.size 174 4 v x.1.length (Zdw x.1)∧Below w.heap.size w w'
theorem z_fl:(Tryz.prog.info? 174).map (fun i=>i.zero.map Value.cells)=some (some ([.int .i64 0,.int .i64 0,.int .i64 0,.string ⟨#[]⟩]:List Value).toArray):=by kernel_rfl
theorem Zmk(nk:Int)(L:List TokV)(m:Nat)(F:Int×Nat×Nat):Yc nk L (m+1) (.bad F)=([],.bad F):=Zgt nk L m _ rfl
theorem qfilters(w:World)(r K:Nat)(L:List TokV)(st:St)(vs:List Value)(n:Nat)(ho:Zt w r K L)(hp:RPv r K L st vs)(hn:Zu L st+1≤n)(hLn:Zu L st≤68719476736) :
  Calls Tryz.prog 144 #[.agg vs.toArray] w (FPo w r K L (Yc 3 L n st)):=by
 have T0:=Hh (Env.start w);have HN:=Hh hn;have HL:=Hh hLn;clear hn hLn;go_enter Tryz.func144,Tryz.ntmps144;go_wp2_with(first
 |((with_reducible refine Zd 1 ?_);refine Zo T0.out 66 _ (vs) rfl rfl rfl ?_;intro w1 g0 t1
   have T1:=Hh (t1);clear t1)
 |((with_reducible refine Zd 2 ?_);refine Zc T1.out 66 _ rfl rfl z_P ?_;intro w2 g1 t2
   have T2:Hid (Env w [(g0,66,vs),(g1,66,[.slice none 0 0,.int .i64 0,.int .i64 0,.int .i64 0,.int .i64 0,.int .i64 0])] [] [] w2):=Hh (t2);clear t2))
 go_loopw [4] (fun v wr=>∃(m:Nat)(acc:List Fl)(s:St)(us:List Value),Env w [(g0,66,us),(g1,66,[.slice none 0 0,.int .i64 0,.int .i64 0,.int .i64 0,.int .i64 0,.int .i64 0])] [⟨v,174,4,acc.length,Zdw acc⟩] [] wr∧RPv r K L s us∧Zu L s+1≤m∧acc.length+Zu L s≤Zu L st∧Yc 3 L n st=(acc++(Yc 3 L m s).1,(Yc 3 L m s).2)) (fun _ wr=>remB g0 L.length wr)
 case atStart=>exact⟨n,[],st,vs,T2.out.row1 174 4,hp,HN.out,by simp,by simp⟩
 case round=>
  obtain⟨m,acc,s,us,hT,hs,hm,hacc,heq⟩:=hrel;obtain⟨m,rfl⟩:∃ m',m=m'+1:=⟨m - 1,by omega⟩
  obtain⟨A,cp,rfl,_,_,_⟩:=Xd (show World.ownsRow _ w.heap.size 174 4 _ acc.length (Zdw acc)from hT.row _ (List.mem_singleton.2 rfl));have hrem:=Je hs (hT.get 0 rfl);clear hp;cases s with
  |bad F=>
    obtain⟨SA,sn,sk,a,d,rfl,hd,hF⟩:=hs.bad;obtain⟨f0,f1,f2⟩:=F;have z0:(f0 == 0)=false:=by rw[beq_eq_false_iff_ne];exact hF
    obtain⟨c0,c1,c2,c3,c4,c5⟩:=Xs (hT.get 0 rfl);have T20:=Hh hT;have HE:=Hh heq;have HF:=Hh hF;clear hT hs hm hacc heq hrem hF;go_wp2_with(first
 |((with_reducible refine Zd 65 ?_);refine Zb 66 _ 66 g0 _ (T20.out.get 0 rfl) Zl Ya rfl rfl rfl ?_)
 |((with_reducible refine Zg 2 65 ?_);refine Za 66 _ _ 66 g1 _ ([.slice SA sn sk,.int .i64 (a:Int),.int .i64 (d:Int),.int .i64 f0,.int .i64 (f1:Int),.int .i64 (f2:Int)]) (T20.out.get 1 rfl) rfl Ya (by simp[Value.oneCell']) rfl rfl rfl rfl rfl ?_
   intro w21 p21;have T21:Hid (Env w [(g0,66,[.slice SA sn sk,.int .i64 (a:Int),.int .i64 (d:Int),.int .i64 f0,.int .i64 (f1:Int),.int .i64 (f2:Int)]),(g1,66,[.slice SA sn sk,.int .i64 (a:Int),.int .i64 (d:Int),.int .i64 f0,.int .i64 (f1:Int),.int .i64 (f2:Int)])] [⟨.slice A acc.length cp,174,4,acc.length,Zdw acc⟩] [] w21):=Hh (T20.out.put 1 rfl p21)
   clear p21))
    refine Xa 2 66 3 66 _ _ _ rfl (T21.out.get 1 rfl) Zl Ya rfl rfl rfl ?_;refine⟨.slice A acc.length cp,[.slice SA sn sk,.int .i64 (a:Int),.int .i64 (d:Int),.int .i64 f0,.int .i64 (f1:Int),.int .i64 (f2:Int)],rfl,?_,?_,T21.out.below⟩
    ·rw[HE.out,Zmk];exact RPv.mkBad (F:=(f0,f1,f2)) _ _ _ _ _ hd HF.out
    ·rw[HE.out,Zmk];simpa using T21.out.row _ (List.mem_singleton.2 rfl)
  |ok a d=>
    obtain⟨sn,hsn,rfl,ha,hd⟩:=hs.ok;obtain⟨c0,c1,c2,c3,c4,c5⟩:=Xs (hT.get 0 rfl);have hf:=fun(x:World)(hx:Env w [(g0,66,[.slice (some ⟨r,0,none⟩) sn K,.int .i64 (a:Int),.int .i64 (d:Int),.int .i64 0,.int .i64 0,.int .i64 0]),(g1,66,[.slice none 0 0,.int .i64 0,.int .i64 0,.int .i64 0,.int .i64 0,.int .i64 0])] [⟨.slice A acc.length cp,174,4,acc.length,Zdw acc⟩] [] x)=>Zkj x r K _ L (.ok a d) [.slice (some ⟨r,0,none⟩) sn K,.int .i64 (a:Int),.int .i64 (d:Int),.int .i64 0,.int .i64 0,.int .i64 0] Yh 4 4 _ rfl rfl (ho.below hx.below) hs rfl (by decide)
    have hf:=hf _ hT;have hle:=Zew L Yh (.ok a d);have hfr:=Vc (L:=L) (ws:=Yh) (st:=.ok a d);have hfn:=Uz L (ws:=Yh) (st:=.ok a d);have hst:=Zkw 3 L m (.ok a d);have hsp:=Zgt 3 L m (.ok a d);have hrf:=Zjj L 3 (Zh L Yh (.ok a d)) (Zz L Yh (.ok a d));generalize hk:Zh L Yh (.ok a d)=k at *;generalize hs1:Zz L Yh (.ok a d)=s1 at *;have T20:=Hh hT;have HA:=Hh (And.intro hacc (And.intro hm hfr));have HB:=Hh hrem;have HE:=Hh heq;have HS:=Hh (And.intro hst (And.intro hsp (And.intro hfn hrf)));have HG:=Hh hs;clear hT hs hm hacc heq hrem hfr hst hsp hfn hrf hk hs1 hsn;have hle4:k≤4:=hle;clear hle;have h5:k=0∨k=1∨k=2∨k=3∨k=4:=by omega
    clear hle4;rcases h5 with rfl | rfl | rfl | rfl | rfl
    ·rw[show((0:Nat):Int)=0 from rfl]at hf
     go_wp2_with(first
 |((with_reducible refine Zd 15 ?_);refine Zb 66 _ 66 g0 _ (T20.out.get 0 rfl) Zl Ya rfl rfl rfl ?_)
 |(go_at_call 20;refine hf.mono ?_;rintro e w21 ⟨v1,rfl,h1,b21⟩
   have T21:=Hh (T20.out.call b21);clear b21)
 |((with_reducible refine Zd 5 ?_);refine Zc T21.out 66 _ rfl rfl z_P ?_;intro w22 g2 t22
   have T22:=Hh (t22);clear t22)
 |((with_reducible refine Zg 5 18 ?_);refine Za 66 _ _ 66 g2 _ (v1) (T22.out.get 2 rfl) h1.len (Ze h1.len) h1.one rfl rfl rfl rfl rfl ?_
   intro w23 p23;have T23:=Hh (T22.out.put 2 rfl p23);clear p23)
 |((with_reducible refine Zd 22 ?_);refine Zb 66 _ 66 g2 _ (T23.out.get 2 rfl) Zl (Ze h1.len) rfl rfl rfl ?_)
 |((with_reducible refine Zg 2 22 ?_);refine Za 66 _ _ 66 g1 _ (v1) (T23.out.get 1 rfl) h1.len (Ze h1.len) h1.one rfl rfl rfl rfl rfl ?_
   intro w24 p24;have T24:Hid (Env w [(g0,66,[.slice (some ⟨r,0,none⟩) sn K,.int .i64 (a:Int),.int .i64 (d:Int),.int .i64 0,.int .i64 0,.int .i64 0]),(g1,66,v1),(g2,66,v1)] [⟨.slice A acc.length cp,174,4,acc.length,Zdw acc⟩] [] w24):=Hh (T23.out.put 1 rfl p24)
   clear p24))
     refine Xa 2 66 3 66 _ _ _ rfl (T24.out.get 1 rfl) Zl (Ze h1.len) rfl rfl rfl ?_;have hs:=HS.out.2.2.1 (by first | rfl | trivial);refine⟨.slice A acc.length cp,v1,rfl,?_,?_,T24.out.below⟩
     ·rw[HE.out,HS.out.2.1 (by first | rfl | trivial)]
      rw[hs]at h1;exact h1
     ·rw[HE.out,HS.out.2.1 (by first | rfl | trivial)];simpa using T24.out.row _ (List.mem_singleton.2 rfl)
    ·rw[show((1:Nat):Int)=1 from rfl]at hf
     have HF:=Hh (show Wt 3 L 1 s1=((⟨1,Zh L wOp s1,Jv L (Zm L wOp s1),⟨#[]⟩⟩:Fl),Uv L (Zm L wOp s1))from rfl);generalize hop:Zh L wOp s1=op at *;generalize hs2:Zm L wOp s1=s2 at *;generalize hsg:Jv L s2=sg at *;have hopc:∀(x:World)(us:List Value),Zt x r K L→RPv r K L s1 us→Calls Tryz.prog 111 #[.agg us.toArray] x (PVo x r K L s2 (.int .i64 (op:Int))):=fun x us h1 h2=>by rw[←hop,←hs2];exact qop x r K L s1 us h1 h2
     have hrd:∀(x:World)(us:List Value),Zt x r K L→RPv r K L s2 us→Calls Tryz.prog 24 #[.agg us.toArray] x (PVo x r K L (Uv L s2) (.int .i64 sg)):=fun x us h1 h2=>by rw[←hsg];exact Zkh x r K L s2 us h1 h2
     clear hop hs2 hsg;go_wp2_with(first
 |((with_reducible refine Zd 15 ?_);refine Zb 66 _ 66 g0 _ (T20.out.get 0 rfl) Zl Ya rfl rfl rfl ?_)
 |(go_at_call 20;refine hf.mono ?_;rintro e w21 ⟨v1,rfl,h1,b21⟩
   have T21:=Hh (T20.out.call b21);clear b21)
 |((with_reducible refine Zd 5 ?_);refine Zc T21.out 66 _ rfl rfl z_P ?_;intro w22 g2 t22
   have T22:=Hh (t22);clear t22)
 |((with_reducible refine Zg 5 18 ?_);refine Za 66 _ _ 66 g2 _ (v1) (T22.out.get 2 rfl) h1.len (Ze h1.len) h1.one rfl rfl rfl rfl rfl ?_
   intro w23 p23;have T23:=Hh (T22.out.put 2 rfl p23);clear p23)
 |((with_reducible refine Zd 7 ?_);refine Zc T23.out 174 _ rfl rfl z_fl ?_;intro w24 g3 t24
   have T24:=Hh (t24);clear t24)
 |((with_reducible refine Zg 7 25 ?_);refine Za 174 _ _ 174 g3 _ ([.int .i64 1,.int .i64 0,.int .i64 0,.string ⟨#[]⟩]) (T24.out.get 3 rfl) rfl Zbd (by simp[Value.oneCell']) rfl rfl rfl rfl rfl ?_
   intro w25 p25;have T25:=Hh (T24.out.put 3 rfl p25);clear p25)
 |((with_reducible refine Zd 29 ?_);refine Zb 66 _ 66 g2 _ (T25.out.get 2 rfl) Zl (Ze h1.len) rfl rfl rfl ?_)
 |(go_at_call 111;refine(hopc _ v1 (ho.below T25.out.below) h1).mono ?_;rintro e w26 ⟨v2,rfl,h2,b26⟩
   have T26:=Hh (T25.out.call b26);clear b26)
 |((with_reducible refine Zg 5 31 ?_);refine Za 66 _ _ 66 g2 _ (v2) (T26.out.get 2 rfl) (h2.len.trans h1.len.symm) (Ze h2.len) h2.one rfl rfl rfl rfl rfl ?_
   intro w27 p27;have T27:=Hh (T26.out.put 2 rfl p27);clear p27)
 |((with_reducible refine Zg 33 32 ?_);refine Zj 3 _ _ 174 g3 1 [.int .i64 1] (.int .i64 0) (.int .i64 (op:Int)) [.int .i64 0,.string ⟨#[]⟩] (T27.out.get 3 rfl) rfl Yb rfl rfl rfl rfl rfl rfl ?_
   intro w28 p28;have T28:=Hh (T27.out.put 3 rfl p28);clear p28)
 |((with_reducible refine Zd 35 ?_);refine Zb 66 _ 66 g2 _ (T28.out.get 2 rfl) Zl (Ze h2.len) rfl rfl rfl ?_)
 |(go_at_call 24;refine(hrd _ v2 (ho.below T28.out.below) h2).mono ?_;rintro e w29 ⟨v3,rfl,h3,b29⟩
   have T29:=Hh (T28.out.call b29);clear b29)
 |((with_reducible refine Zg 5 37 ?_);refine Za 66 _ _ 66 g2 _ (v3) (T29.out.get 2 rfl) (h3.len.trans h2.len.symm) (Ze h3.len) h3.one rfl rfl rfl rfl rfl ?_
   intro w30 p30;have T30:=Hh (T29.out.put 2 rfl p30);clear p30)
 |((with_reducible refine Zg 39 38 ?_);refine Zj 3 _ _ 174 g3 2 [.int .i64 1,.int .i64 (op:Int)] (.int .i64 0) (.int .i64 sg) [.string ⟨#[]⟩] (T30.out.get 3 rfl) rfl Yb rfl rfl rfl rfl rfl rfl ?_
   intro w31 p31;have T31:=Hh (T30.out.put 3 rfl p31);clear p31)
 |((with_reducible refine Zd 61 ?_);refine Zb 174 _ 174 g3 _ (T31.out.get 3 rfl) Zgm Zbd rfl rfl rfl ?_)
 |(at_builtin;refine Wi (.tmp 60) (.tmp 62) 47 174 4 40 _ Zbu Zdk rfl (by decide) (by decide) w.heap.size (.slice A acc.length cp) acc.length (Zdw acc) [.int .i64 1,.int .i64 (op:Int),.int .i64 sg,.string ⟨#[]⟩] ((T31.out.call (Zi w31 (.cells [.int .i64 1,.int .i64 (op:Int),.int .i64 sg,.string ⟨#[]⟩].toArray 174))).row _ (List.mem_singleton.2 rfl)) w31.heap.size (Zf.made _ _ _) rfl (by simp[Value.oneCell']) (by have:=HA.out.1;have:=HL.out;omega) (T31.out.call (Zi w31 (.cells [.int .i64 1,.int .i64 (op:Int),.int .i64 sg,.string ⟨#[]⟩].toArray 174))).below.size rfl rfl rfl rfl ?_
   intro v9 w32 o9 g9 at9;have T32:=Hh ((T31.out.call (Zi w31 (.cells [.int .i64 1,.int .i64 (op:Int),.int .i64 sg,.string ⟨#[]⟩].toArray 174))).push o9 g9 at9);clear o9 g9 at9)
 |((with_reducible refine Zd 64 ?_);refine Zb 66 _ 66 g2 _ (T32.out.get 2 rfl) Zl (Ze h3.len) rfl rfl rfl ?_)
 |((with_reducible refine Zg 1 64 ?_);refine Za 66 _ _ 66 g0 _ (v3) (T32.out.get 0 rfl) h3.len (Ze h3.len) h3.one rfl rfl rfl rfl rfl ?_
   intro w33 p33;have T33:Hid (Env w [(g0,66,v3),(g1,66,[.slice none 0 0,.int .i64 0,.int .i64 0,.int .i64 0,.int .i64 0,.int .i64 0]),(g2,66,v3),(g3,174,[.int .i64 1,.int .i64 (op:Int),.int .i64 sg,.string ⟨#[]⟩])] [⟨v9,174,4,acc.length+1,Zdw acc++[.int .i64 1,.int .i64 (op:Int),.int .i64 sg,.string ⟨#[]⟩]⟩] [] w33):=Hh (T32.out.put 0 rfl p33)
   clear p33))
     go_roundw
     case rel=>
      have h4:=HS.out.2.2.2;rw[HF.out]at h4;dsimp only at h4;have h5:=HA.out.2.2 (by decide);repeat apply Exists.intro
      refine⟨⟨m,acc++[⟨1,op,sg,⟨#[]⟩⟩],Uv L s2,v3,?_,h3,?_,?_,?_⟩,rfl⟩
      ·rw[List.length_append,Zbg];exact T33.out.less (bs:=[(g0,66,v3),(g1,66,[.slice none 0 0,.int .i64 0,.int .i64 0,.int .i64 0,.int .i64 0,.int .i64 0])]) (ts:=[]) (us:=[])
      ·have:=HA.out.2.1;omega
      ·have:=HA.out.1;rw[List.length_append];simp only[List.length_cons,List.length_nil];omega
      ·rw[HE.out,HS.out.1 (by decide),HF.out];simp
     case measure=>
      have h4:=HS.out.2.2.2;rw[HF.out]at h4;dsimp only at h4;have h5:=HA.out.2.2 (by decide);have h6:=Je h3 (T33.out.get 0 rfl);have h7:=HB.out;rw[h6,h7];omega
    ·rw[show((2:Nat):Int)=2 from rfl]at hf
     have HF:=Hh (show Wt 3 L 2 s1=((⟨2,Zh L wOp s1,Jv L (Zm L wOp s1),⟨#[]⟩⟩:Fl),Uv L (Zm L wOp s1))from rfl);generalize hop:Zh L wOp s1=op at *;generalize hs2:Zm L wOp s1=s2 at *;generalize hsg:Jv L s2=sg at *;have hopc:∀(x:World)(us:List Value),Zt x r K L→RPv r K L s1 us→Calls Tryz.prog 111 #[.agg us.toArray] x (PVo x r K L s2 (.int .i64 (op:Int))):=fun x us h1 h2=>by rw[←hop,←hs2];exact qop x r K L s1 us h1 h2
     have hrd:∀(x:World)(us:List Value),Zt x r K L→RPv r K L s2 us→Calls Tryz.prog 24 #[.agg us.toArray] x (PVo x r K L (Uv L s2) (.int .i64 sg)):=fun x us h1 h2=>by rw[←hsg];exact Zkh x r K L s2 us h1 h2
     clear hop hs2 hsg;go_wp2_with(first
 |((with_reducible refine Zd 15 ?_);refine Zb 66 _ 66 g0 _ (T20.out.get 0 rfl) Zl Ya rfl rfl rfl ?_)
 |(go_at_call 20;refine hf.mono ?_;rintro e w21 ⟨v1,rfl,h1,b21⟩
   have T21:=Hh (T20.out.call b21);clear b21)
 |((with_reducible refine Zd 5 ?_);refine Zc T21.out 66 _ rfl rfl z_P ?_;intro w22 g2 t22
   have T22:=Hh (t22);clear t22)
 |((with_reducible refine Zg 5 18 ?_);refine Za 66 _ _ 66 g2 _ (v1) (T22.out.get 2 rfl) h1.len (Ze h1.len) h1.one rfl rfl rfl rfl rfl ?_
   intro w23 p23;have T23:=Hh (T22.out.put 2 rfl p23);clear p23)
 |((with_reducible refine Zd 7 ?_);refine Zc T23.out 174 _ rfl rfl z_fl ?_;intro w24 g3 t24
   have T24:=Hh (t24);clear t24)
 |((with_reducible refine Zg 7 25 ?_);refine Za 174 _ _ 174 g3 _ ([.int .i64 2,.int .i64 0,.int .i64 0,.string ⟨#[]⟩]) (T24.out.get 3 rfl) rfl Zbd (by simp[Value.oneCell']) rfl rfl rfl rfl rfl ?_
   intro w25 p25;have T25:=Hh (T24.out.put 3 rfl p25);clear p25)
 |((with_reducible refine Zd 29 ?_);refine Zb 66 _ 66 g2 _ (T25.out.get 2 rfl) Zl (Ze h1.len) rfl rfl rfl ?_)
 |(go_at_call 111;refine(hopc _ v1 (ho.below T25.out.below) h1).mono ?_;rintro e w26 ⟨v2,rfl,h2,b26⟩
   have T26:=Hh (T25.out.call b26);clear b26)
 |((with_reducible refine Zg 5 31 ?_);refine Za 66 _ _ 66 g2 _ (v2) (T26.out.get 2 rfl) (h2.len.trans h1.len.symm) (Ze h2.len) h2.one rfl rfl rfl rfl rfl ?_
   intro w27 p27;have T27:=Hh (T26.out.put 2 rfl p27);clear p27)
 |((with_reducible refine Zg 33 32 ?_);refine Zj 3 _ _ 174 g3 1 [.int .i64 2] (.int .i64 0) (.int .i64 (op:Int)) [.int .i64 0,.string ⟨#[]⟩] (T27.out.get 3 rfl) rfl Yb rfl rfl rfl rfl rfl rfl ?_
   intro w28 p28;have T28:=Hh (T27.out.put 3 rfl p28);clear p28)
 |((with_reducible refine Zd 35 ?_);refine Zb 66 _ 66 g2 _ (T28.out.get 2 rfl) Zl (Ze h2.len) rfl rfl rfl ?_)
 |(go_at_call 24;refine(hrd _ v2 (ho.below T28.out.below) h2).mono ?_;rintro e w29 ⟨v3,rfl,h3,b29⟩
   have T29:=Hh (T28.out.call b29);clear b29)
 |((with_reducible refine Zg 5 37 ?_);refine Za 66 _ _ 66 g2 _ (v3) (T29.out.get 2 rfl) (h3.len.trans h2.len.symm) (Ze h3.len) h3.one rfl rfl rfl rfl rfl ?_
   intro w30 p30;have T30:=Hh (T29.out.put 2 rfl p30);clear p30)
 |((with_reducible refine Zg 39 38 ?_);refine Zj 3 _ _ 174 g3 2 [.int .i64 2,.int .i64 (op:Int)] (.int .i64 0) (.int .i64 sg) [.string ⟨#[]⟩] (T30.out.get 3 rfl) rfl Yb rfl rfl rfl rfl rfl rfl ?_
   intro w31 p31;have T31:=Hh (T30.out.put 3 rfl p31);clear p31)
 |((with_reducible refine Zd 61 ?_);refine Zb 174 _ 174 g3 _ (T31.out.get 3 rfl) Zgm Zbd rfl rfl rfl ?_)
 |(at_builtin;refine Wi (.tmp 60) (.tmp 62) 47 174 4 40 _ Zbu Zdk rfl (by decide) (by decide) w.heap.size (.slice A acc.length cp) acc.length (Zdw acc) [.int .i64 2,.int .i64 (op:Int),.int .i64 sg,.string ⟨#[]⟩] ((T31.out.call (Zi w31 (.cells [.int .i64 2,.int .i64 (op:Int),.int .i64 sg,.string ⟨#[]⟩].toArray 174))).row _ (List.mem_singleton.2 rfl)) w31.heap.size (Zf.made _ _ _) rfl (by simp[Value.oneCell']) (by have:=HA.out.1;have:=HL.out;omega) (T31.out.call (Zi w31 (.cells [.int .i64 2,.int .i64 (op:Int),.int .i64 sg,.string ⟨#[]⟩].toArray 174))).below.size rfl rfl rfl rfl ?_
   intro v9 w32 o9 g9 at9;have T32:=Hh ((T31.out.call (Zi w31 (.cells [.int .i64 2,.int .i64 (op:Int),.int .i64 sg,.string ⟨#[]⟩].toArray 174))).push o9 g9 at9);clear o9 g9 at9)
 |((with_reducible refine Zd 64 ?_);refine Zb 66 _ 66 g2 _ (T32.out.get 2 rfl) Zl (Ze h3.len) rfl rfl rfl ?_)
 |((with_reducible refine Zg 1 64 ?_);refine Za 66 _ _ 66 g0 _ (v3) (T32.out.get 0 rfl) h3.len (Ze h3.len) h3.one rfl rfl rfl rfl rfl ?_
   intro w33 p33;have T33:Hid (Env w [(g0,66,v3),(g1,66,[.slice none 0 0,.int .i64 0,.int .i64 0,.int .i64 0,.int .i64 0,.int .i64 0]),(g2,66,v3),(g3,174,[.int .i64 2,.int .i64 (op:Int),.int .i64 sg,.string ⟨#[]⟩])] [⟨v9,174,4,acc.length+1,Zdw acc++[.int .i64 2,.int .i64 (op:Int),.int .i64 sg,.string ⟨#[]⟩]⟩] [] w33):=Hh (T32.out.put 0 rfl p33)
   clear p33))
     go_roundw
     case rel=>
      have h4:=HS.out.2.2.2;rw[HF.out]at h4;dsimp only at h4;have h5:=HA.out.2.2 (by decide);repeat apply Exists.intro
      refine⟨⟨m,acc++[⟨2,op,sg,⟨#[]⟩⟩],Uv L s2,v3,?_,h3,?_,?_,?_⟩,rfl⟩
      ·rw[List.length_append,Zbg];exact T33.out.less (bs:=[(g0,66,v3),(g1,66,[.slice none 0 0,.int .i64 0,.int .i64 0,.int .i64 0,.int .i64 0,.int .i64 0])]) (ts:=[]) (us:=[])
      ·have:=HA.out.2.1;omega
      ·have:=HA.out.1;rw[List.length_append];simp only[List.length_cons,List.length_nil];omega
      ·rw[HE.out,HS.out.1 (by decide),HF.out];simp
     case measure=>
      have h4:=HS.out.2.2.2;rw[HF.out]at h4;dsimp only at h4;have h5:=HA.out.2.2 (by decide);have h6:=Je h3 (T33.out.get 0 rfl);have h7:=HB.out;rw[h6,h7];omega
    ·rw[show((3:Nat):Int)=3 from rfl]at hf
     have HF:=Hh (show Wt 3 L 3 s1=((⟨3,0,0,Zbl L s1⟩:Fl),Wo L s1)from rfl);generalize hnm:Zbl L s1=nm at *;have hrd:∀(x:World)(us:List Value),Zt x r K L→RPv r K L s1 us→Calls Tryz.prog 21 #[.agg us.toArray] x (PVo x r K L (Wo L s1) (.string nm)):=fun x us h1 h2=>by rw[←hnm];exact qname x r K L s1 us h1 h2
     clear hnm;go_wp2_with(first
 |((with_reducible refine Zd 15 ?_);refine Zb 66 _ 66 g0 _ (T20.out.get 0 rfl) Zl Ya rfl rfl rfl ?_)
 |(go_at_call 20;refine hf.mono ?_;rintro e w21 ⟨v1,rfl,h1,b21⟩
   have T21:=Hh (T20.out.call b21);clear b21)
 |((with_reducible refine Zd 5 ?_);refine Zc T21.out 66 _ rfl rfl z_P ?_;intro w22 g2 t22
   have T22:=Hh (t22);clear t22)
 |((with_reducible refine Zg 5 18 ?_);refine Za 66 _ _ 66 g2 _ (v1) (T22.out.get 2 rfl) h1.len (Ze h1.len) h1.one rfl rfl rfl rfl rfl ?_
   intro w23 p23;have T23:=Hh (T22.out.put 2 rfl p23);clear p23)
 |((with_reducible refine Zd 7 ?_);refine Zc T23.out 174 _ rfl rfl z_fl ?_;intro w24 g3 t24
   have T24:=Hh (t24);clear t24)
 |((with_reducible refine Zg 7 25 ?_);refine Za 174 _ _ 174 g3 _ ([.int .i64 3,.int .i64 0,.int .i64 0,.string ⟨#[]⟩]) (T24.out.get 3 rfl) rfl Zbd (by simp[Value.oneCell']) rfl rfl rfl rfl rfl ?_
   intro w25 p25;have T25:=Hh (T24.out.put 3 rfl p25);clear p25)
 |((with_reducible refine Zd 43 ?_);refine Zb 66 _ 66 g2 _ (T25.out.get 2 rfl) Zl (Ze h1.len) rfl rfl rfl ?_)
 |(go_at_call 21;refine(hrd _ v1 (ho.below T25.out.below) h1).mono ?_;rintro e w26 ⟨v3,rfl,h3,b26⟩
   have T26:=Hh (T25.out.call b26);clear b26)
 |((with_reducible refine Zg 5 45 ?_);refine Za 66 _ _ 66 g2 _ (v3) (T26.out.get 2 rfl) (h3.len.trans h1.len.symm) (Ze h3.len) h3.one rfl rfl rfl rfl rfl ?_
   intro w27 p27;have T27:=Hh (T26.out.put 2 rfl p27);clear p27)
 |((with_reducible refine Zg 47 46 ?_);refine Zj 9 _ _ 174 g3 3 [.int .i64 3,.int .i64 0,.int .i64 0] (.string ⟨#[]⟩) (.string nm) [] (T27.out.get 3 rfl) rfl Zhl rfl rfl rfl rfl rfl rfl ?_
   intro w28 p28;have T28:=Hh (T27.out.put 3 rfl p28);clear p28)
 |((with_reducible refine Zd 61 ?_);refine Zb 174 _ 174 g3 _ (T28.out.get 3 rfl) Zgm Zbd rfl rfl rfl ?_)
 |(at_builtin;refine Wi (.tmp 60) (.tmp 62) 47 174 4 40 _ Zbu Zdk rfl (by decide) (by decide) w.heap.size (.slice A acc.length cp) acc.length (Zdw acc) [.int .i64 3,.int .i64 0,.int .i64 0,.string nm] ((T28.out.call (Zi w28 (.cells [.int .i64 3,.int .i64 0,.int .i64 0,.string nm].toArray 174))).row _ (List.mem_singleton.2 rfl)) w28.heap.size (Zf.made _ _ _) rfl (by simp[Value.oneCell']) (by have:=HA.out.1;have:=HL.out;omega) (T28.out.call (Zi w28 (.cells [.int .i64 3,.int .i64 0,.int .i64 0,.string nm].toArray 174))).below.size rfl rfl rfl rfl ?_
   intro v9 w29 o9 g9 at9;have T29:=Hh ((T28.out.call (Zi w28 (.cells [.int .i64 3,.int .i64 0,.int .i64 0,.string nm].toArray 174))).push o9 g9 at9);clear o9 g9 at9)
 |((with_reducible refine Zd 64 ?_);refine Zb 66 _ 66 g2 _ (T29.out.get 2 rfl) Zl (Ze h3.len) rfl rfl rfl ?_)
 |((with_reducible refine Zg 1 64 ?_);refine Za 66 _ _ 66 g0 _ (v3) (T29.out.get 0 rfl) h3.len (Ze h3.len) h3.one rfl rfl rfl rfl rfl ?_
   intro w30 p30;have T30:Hid (Env w [(g0,66,v3),(g1,66,[.slice none 0 0,.int .i64 0,.int .i64 0,.int .i64 0,.int .i64 0,.int .i64 0]),(g2,66,v3),(g3,174,[.int .i64 3,.int .i64 0,.int .i64 0,.string nm])] [⟨v9,174,4,acc.length+1,Zdw acc++[.int .i64 3,.int .i64 0,.int .i64 0,.string nm]⟩] [] w30):=Hh (T29.out.put 0 rfl p30)
   clear p30))
     go_roundw
     case rel=>
      have h4:=HS.out.2.2.2;rw[HF.out]at h4;dsimp only at h4;have h5:=HA.out.2.2 (by decide);repeat apply Exists.intro
      refine⟨⟨m,acc++[⟨3,0,0,nm⟩],Wo L s1,v3,?_,h3,?_,?_,?_⟩,rfl⟩
      ·rw[List.length_append,Zbg];exact T30.out.less (bs:=[(g0,66,v3),(g1,66,[.slice none 0 0,.int .i64 0,.int .i64 0,.int .i64 0,.int .i64 0,.int .i64 0])]) (ts:=[]) (us:=[])
      ·have:=HA.out.2.1;omega
      ·have:=HA.out.1;rw[List.length_append];simp only[List.length_cons,List.length_nil];omega
      ·rw[HE.out,HS.out.1 (by decide),HF.out];simp
     case measure=>
      have h4:=HS.out.2.2.2;rw[HF.out]at h4;dsimp only at h4;have h5:=HA.out.2.2 (by decide);have h6:=Je h3 (T30.out.get 0 rfl);have h7:=HB.out;rw[h6,h7];omega
    ·rw[show((4:Nat):Int)=4 from rfl]at hf
     have HF:=Hh (show Wt 3 L 4 s1=((⟨3+(Zh L Vh s1:Int),0,0,⟨#[]⟩⟩:Fl),Zm L Vh s1)from by
      show((⟨if Zh L Vh s1=0 then 3 else 3+(Zh L Vh s1:Int),0,0,⟨#[]⟩⟩:Fl),Zm L Vh s1)=_;by_cases h:Zh L Vh s1=0
      ·rw[if_pos h,h];rfl
      ·rw[if_neg h])
     have hme:=Zew L Vh s1;generalize hop:Zh L Vh s1=me at *;have hmu:∀(x:World)(us:List Value),Zt x r K L→RPv r K L s1 us→Calls Tryz.prog 51 #[.agg us.toArray,.slice (some ⟨x.heap.size,0,none⟩) 2 2] (x.alloc (.cells #[.string ⟨#[109,101]⟩,.string ⟨#[105,116]⟩] 9)) (PVo x r K L (Zm L Vh s1) (.int .i64 (me:Int))):=fun x us h1 h2=>by rw[←hop];exact Zdv x r K _ L s1 us Vh 2 2 _ rfl rfl h1 h2 rfl (by decide)
     have hme2:(me:Int)≤2:=by have:me≤2:=hme;omega
     have hme0:(0:Int)≤(me:Int):=by omega
     clear hop hme;go_wp2_with(first
 |((with_reducible refine Zd 15 ?_);refine Zb 66 _ 66 g0 _ (T20.out.get 0 rfl) Zl Ya rfl rfl rfl ?_)
 |(go_at_call 20;refine hf.mono ?_;rintro e w21 ⟨v1,rfl,h1,b21⟩
   have T21:=Hh (T20.out.call b21);clear b21)
 |((with_reducible refine Zd 5 ?_);refine Zc T21.out 66 _ rfl rfl z_P ?_;intro w22 g2 t22
   have T22:=Hh (t22);clear t22)
 |((with_reducible refine Zg 5 18 ?_);refine Za 66 _ _ 66 g2 _ (v1) (T22.out.get 2 rfl) h1.len (Ze h1.len) h1.one rfl rfl rfl rfl rfl ?_
   intro w23 p23;have T23:=Hh (T22.out.put 2 rfl p23);clear p23)
 |((with_reducible refine Zd 7 ?_);refine Zc T23.out 174 _ rfl rfl z_fl ?_;intro w24 g3 t24
   have T24:=Hh (t24);clear t24)
 |((with_reducible refine Zg 7 25 ?_);refine Za 174 _ _ 174 g3 _ ([.int .i64 4,.int .i64 0,.int .i64 0,.string ⟨#[]⟩]) (T24.out.get 3 rfl) rfl Zbd (by simp[Value.oneCell']) rfl rfl rfl rfl rfl ?_
   intro w25 p25;have T25:=Hh (T24.out.put 3 rfl p25);clear p25)
 |((with_reducible refine Zd 51 ?_);refine Zb 66 _ 66 g2 _ (T25.out.get 2 rfl) Zl (Ze h1.len) rfl rfl rfl ?_)
 |(go_at_call 51;refine(hmu _ v1 (ho.below T25.out.below) h1).mono ?_;rintro e w26 ⟨v3,rfl,h3,b26⟩
   have T26:=Hh (T25.out.call b26);clear b26)
 |((with_reducible refine Zd 8 ?_);refine Zc T26.out 66 _ rfl rfl z_P ?_;intro w27 g4 t27
   have T27:=Hh (t27);clear t27)
 |((with_reducible refine Zg 8 54 ?_);refine Za 66 _ _ 66 g4 _ (v3) (T27.out.get 4 rfl) h3.len (Ze h3.len) h3.one rfl rfl rfl rfl rfl ?_
   intro w28 p28;have T28:=Hh (T27.out.put 4 rfl p28);clear p28)
 |((with_reducible refine Zd 56 ?_);refine Zb 66 _ 66 g4 _ (T28.out.get 4 rfl) Zl (Ze h3.len) rfl rfl rfl ?_)
 |((with_reducible refine Zg 5 56 ?_);refine Za 66 _ _ 66 g2 _ (v3) (T28.out.get 2 rfl) (h3.len.trans h1.len.symm) (Ze h3.len) h3.one rfl rfl rfl rfl rfl ?_
   intro w29 p29;have T29:=Hh (T28.out.put 2 rfl p29);clear p29)
 |((with_reducible refine Zg 59 58 ?_);refine Zj 3 _ _ 174 g3 0 [] (.int .i64 4) (.int .i64 (3+(me:Int))) [.int .i64 0,.int .i64 0,.string ⟨#[]⟩] (T29.out.get 3 rfl) rfl Yb rfl rfl rfl rfl rfl rfl ?_
   intro w30 p30;have T30:=Hh (T29.out.put 3 rfl p30);clear p30)
 |((with_reducible refine Zd 61 ?_);refine Zb 174 _ 174 g3 _ (T30.out.get 3 rfl) Zgm Zbd rfl rfl rfl ?_)
 |(at_builtin;refine Wi (.tmp 60) (.tmp 62) 47 174 4 40 _ Zbu Zdk rfl (by decide) (by decide) w.heap.size (.slice A acc.length cp) acc.length (Zdw acc) [.int .i64 (3+(me:Int)),.int .i64 0,.int .i64 0,.string ⟨#[]⟩] ((T30.out.call (Zi w30 (.cells [.int .i64 (3+(me:Int)),.int .i64 0,.int .i64 0,.string ⟨#[]⟩].toArray 174))).row _ (List.mem_singleton.2 rfl)) w30.heap.size (Zf.made _ _ _) rfl (by simp[Value.oneCell']) (by have:=HA.out.1;have:=HL.out;omega) (T30.out.call (Zi w30 (.cells [.int .i64 (3+(me:Int)),.int .i64 0,.int .i64 0,.string ⟨#[]⟩].toArray 174))).below.size rfl rfl rfl rfl ?_
   intro v9 w31 o9 g9 at9;have T31:=Hh ((T30.out.call (Zi w30 (.cells [.int .i64 (3+(me:Int)),.int .i64 0,.int .i64 0,.string ⟨#[]⟩].toArray 174))).push o9 g9 at9);clear o9 g9 at9)
 |((with_reducible refine Zd 64 ?_);refine Zb 66 _ 66 g2 _ (T31.out.get 2 rfl) Zl (Ze h3.len) rfl rfl rfl ?_)
 |((with_reducible refine Zg 1 64 ?_);refine Za 66 _ _ 66 g0 _ (v3) (T31.out.get 0 rfl) h3.len (Ze h3.len) h3.one rfl rfl rfl rfl rfl ?_
   intro w32 p32;have T32:Hid (Env w [(g0,66,v3),(g1,66,[.slice none 0 0,.int .i64 0,.int .i64 0,.int .i64 0,.int .i64 0,.int .i64 0]),(g2,66,v3),(g3,174,[.int .i64 (3+(me:Int)),.int .i64 0,.int .i64 0,.string ⟨#[]⟩]),(g4,66,v3)] [⟨v9,174,4,acc.length+1,Zdw acc++[.int .i64 (3+(me:Int)),.int .i64 0,.int .i64 0,.string ⟨#[]⟩]⟩] [] w32):=Hh (T31.out.put 0 rfl p32)
   clear p32))
     go_roundw
     case rel=>
      have h4:=HS.out.2.2.2;rw[HF.out]at h4;dsimp only at h4;have h5:=HA.out.2.2 (by decide);repeat apply Exists.intro
      refine⟨⟨m,acc++[⟨3+(me:Int),0,0,⟨#[]⟩⟩],Zm L Vh s1,v3,?_,h3,?_,?_,?_⟩,rfl⟩
      ·rw[List.length_append,Zbg];exact T32.out.less (bs:=[(g0,66,v3),(g1,66,[.slice none 0 0,.int .i64 0,.int .i64 0,.int .i64 0,.int .i64 0,.int .i64 0])]) (ts:=[]) (us:=[])
      ·have:=HA.out.2.1;omega
      ·have:=HA.out.1;rw[List.length_append];simp only[List.length_cons,List.length_nil];omega
      ·rw[HE.out,HS.out.1 (by decide),HF.out];simp
     case measure=>
      have h4:=HS.out.2.2.2;rw[HF.out]at h4;dsimp only at h4;have h5:=HA.out.2.2 (by decide);have h6:=Je h3 (T32.out.get 0 rfl);have h7:=HB.out;rw[h6,h7];omega
end Go.Proofs.YtdngkgickbaboaaGreat
