/- Parts of the proof. No conditions but those that each names. -/
import Derived.Test.YtdngkgickbaboaaGreatQF20
set_option maxRecDepth 20000
set_option maxHeartbeats 12800000
set_option linter.unusedVariables false
set_option linter.unusedSimpArgs false
namespace Go.Proofs.YtdngkgickbaboaaGreat
open Go.Value renaming int→I,slice→Λ,pointer→Ω,string→Ψ
open Go.IntKind renaming i64→J
open _root_.ByteArray renaming size_append→Δ
open Go.ChangeShapes Go.WideShapes Go.ChangeAt Go.RowKit Go.Great
theorem Zdw{P:Program}{ops:Array Oper}{S:World→Prop}{o:Oper}{a:Act}{t u:TypeId}{x y:Operand}{s r q:ByteArray}(e:q=s++r)(g:o.guard=none)(ho:o.op=.binOp .add t x y u)(hx:a.eval x=Ψ s)(hy:a.eval y=Ψ r)(hz:s.size+r.size≤9223372036854775807):Wx P ops S o (Ψ q) a:=by
 subst e;exact Yi g ho hx hy hz
theorem rz_card(w0:World)(N:Nat→Prop)(c:Ca)(hv:VCa c)(vs:List Value)(hd:Zt N w0 c.ds vs)(hb:(Zml c).size≤10000000000):RzC 8 w0 (.agg vs.toArray) (Zml c):=by
 intro w by_;obtain⟨nm,cost,pw,ln,cl,rules⟩:=c;obtain⟨_,rfl,_,rfl,_,rfl,_,rfl,_,rfl,D,c2,zs,_,rfl,hn,hw,hz,rfl⟩:=hd;obtain⟨_,hc,hp,hrs⟩:=hv;unfold Zml at hb ⊢;dsimp only at hb ⊢ hc hp hrs;have zK:(Zkp rules).size≤10000000000:=by simp only[Δ]at hb;omega
 have zN:nm.size≤10000000000:=by simp only[Δ]at hb;omega
 have hr:=rz_rules w0 N rules hrs (Λ D rules.length c2) ⟨D,c2,zs,[],rfl,hn,hw,hz,rfl⟩ zK;have HK:=Hh (fun y (b:Below w.heap.size w y)=>hr.at_ by_ y b);generalize Zkp rules=K at *;generalize rules.length=rn at *;have q1 : -9223372036854775808≤cost:=by omega
 have q2:cost≤9223372036854775807:=by omega
 have q3 : -9223372036854775808≤pw:=by omega
 have q4:pw≤9223372036854775807:=by omega
 have zc:(Xf cost).size≤1000:=Zpo hc.1 hc.2;have zp:(Xf pw).size≤1000:=Znp hp.1 hp.2;clear hn hw hz hb hr hrs hc hp;obtain⟨S1,hS1⟩:∃ s,s=(⟨#[99,97,114,100,32,34]⟩:ByteArray)++nm:=⟨_,rfl⟩
 obtain⟨S2,hS2⟩:∃ s,s=S1++⟨#[34,32,99,111,115,116,32]⟩:=⟨_,rfl⟩
 obtain⟨S3,hS3⟩:∃ s,s=S2++Xf cost:=⟨_,rfl⟩
 obtain⟨S4,hS4⟩:∃ s,s=S3++⟨#[32,112,111,119,101,114,32]⟩:=⟨_,rfl⟩
 obtain⟨S5,hS5⟩:∃ s,s=S4++Xf pw:=⟨_,rfl⟩
 obtain⟨S6,hS6⟩:∃ s,s=S5++⟨#[32]⟩:=⟨_,rfl⟩
 obtain⟨S7,hS7⟩:∃ s,s=S6++K:=⟨_,rfl⟩
 have z0:(⟨#[99,97,114,100,32,34]⟩:ByteArray).size=6:=rfl;have z2:(⟨#[34,32,99,111,115,116,32]⟩:ByteArray).size=7:=rfl;have z4:(⟨#[32,112,111,119,101,114,32]⟩:ByteArray).size=7:=rfl;have z6:(⟨#[32]⟩:ByteArray).size=1:=rfl;have y1:S1.size≤10000002000:=by rw[hS1,Δ];omega
 have y2:S2.size≤10000004000:=by rw[hS2,Δ];omega
 have y3:S3.size≤10000006000:=by rw[hS3,Δ];omega
 have y4:S4.size≤10000008000:=by rw[hS4,Δ];omega
 have y5:S5.size≤10000010000:=by rw[hS5,Δ];omega
 have y6:S6.size≤10000012000:=by rw[hS6,Δ];omega
 have y7:S7.size≤60000000000:=by rw[hS7,Δ];omega
 have hS:⟨#[99,97,114,100,32,34]⟩++nm++⟨#[34,32,99,111,115,116,32]⟩++Xf cost++⟨#[32,112,111,119,101,114,32]⟩++Xf pw++⟨#[32]⟩++K=S7:=by rw[hS7,hS6,hS5,hS4,hS3,hS2,hS1]
 rw[hS];clear hS;have T:=Hh (Env.start w);go_enter Tryz.func8,Tryz.ntmps8;go_upto_region 1 with(first
 |((with_reducible refine Zd 1 ?_);refine Zk T.out 35 _ [Ψ nm,I J cost,I J pw,I J ln,I J cl,Λ D rn c2] rfl rfl rfl ?_;intro wn g0 tn;have T:=Hh tn;clear tn))
 refine Xg (fun x=>Env w [(g0,35,[Ψ nm,I J cost,I J pw,I J ln,I J cl,Λ D rn c2])] [] [] x) (by kernel_rfl) T.out.drew ?_;have hst:Zdp (fun x=>Env w [(g0,35,[Ψ nm,I J cost,I J pw,I J ln,I J cl,Λ D rn c2])] [] [] x):=fun x y h e=>Env.call h e
 refine AB.tk 0 (Ω (some ⟨g0,0,none⟩)) rfl rfl (by kernel_rfl) (fun _ _ _ h=>h) hst (Zn rfl (fun y hy=>by go_simp)) ?_;simp only[Qy,Qx];refine AB.tk 1 (Ψ nm) rfl rfl (by kernel_rfl) (fun _ _ _ h=>h) hst (Zn rfl (fun y hy=>by have c0:=Env.cell (hy) 0 0 rfl rfl;go_simp)) ?_;simp only[Qy,Qx];refine AB.tk 2 (Ψ S1) rfl rfl (by kernel_rfl) (fun _ _ _ h=>h) hst (Zdw hS1 rfl rfl rfl rfl (by omega)) ?_;simp only[Qy,Qx];refine AB.tk 3 (Ψ S2) rfl rfl (by kernel_rfl) (fun _ _ _ h=>h) hst (Zdw hS2 rfl rfl rfl rfl (by omega)) ?_;simp only[Qy,Qx];refine AB.tk 4 (Ω (some ⟨g0,1,none⟩)) rfl rfl (by kernel_rfl) (fun _ _ _ h=>h) hst (Zn rfl (fun y hy=>by go_simp)) ?_;simp only[Qy,Qx];refine AB.tk 5 (I J cost) rfl rfl (by kernel_rfl) (fun _ _ _ h=>h) hst (Zn rfl (fun y hy=>by have c0:=Env.cell (hy) 0 1 rfl rfl;go_simp)) ?_;simp only[Qy,Qx];refine AB.tk 6 (Ψ (Xf cost)) rfl rfl (by kernel_rfl) (fun _ _ _ h=>h) hst (Wx.call rfl (fun w=>by kernel_rfl) (fun y hy=>Zjg cost y q1 q2)) ?_;simp only[Qy,Qx];refine AB.tk 7 (Ψ S3) rfl rfl (by kernel_rfl) (fun _ _ _ h=>h) hst (Zdw hS3 rfl rfl rfl rfl (by omega)) ?_;simp only[Qy,Qx];refine AB.tk 8 (Ψ S4) rfl rfl (by kernel_rfl) (fun _ _ _ h=>h) hst (Zdw hS4 rfl rfl rfl rfl (by omega)) ?_;simp only[Qy,Qx];refine AB.tk 9 (Ω (some ⟨g0,2,none⟩)) rfl rfl (by kernel_rfl) (fun _ _ _ h=>h) hst (Zn rfl (fun y hy=>by go_simp)) ?_;simp only[Qy,Qx];refine AB.tk 10 (I J pw) rfl rfl (by kernel_rfl) (fun _ _ _ h=>h) hst (Zn rfl (fun y hy=>by have c0:=Env.cell (hy) 0 2 rfl rfl;go_simp)) ?_;simp only[Qy,Qx];refine AB.tk 11 (Ψ (Xf pw)) rfl rfl (by kernel_rfl) (fun _ _ _ h=>h) hst (Wx.call rfl (fun w=>by kernel_rfl) (fun y hy=>Zjg pw y q3 q4)) ?_;simp only[Qy,Qx];refine AB.tk 12 (Ψ S5) rfl rfl (by kernel_rfl) (fun _ _ _ h=>h) hst (Zdw hS5 rfl rfl rfl rfl (by omega)) ?_;simp only[Qy,Qx];refine AB.tk 13 (Ψ S6) rfl rfl (by kernel_rfl) (fun _ _ _ h=>h) hst (Zdw hS6 rfl rfl rfl rfl (by omega)) ?_;simp only[Qy,Qx];refine AB.tk 14 (Ω (some ⟨g0,5,none⟩)) rfl rfl (by kernel_rfl) (fun _ _ _ h=>h) hst (Zn rfl (fun y hy=>by go_simp)) ?_;simp only[Qy,Qx];refine AB.tk 15 (Λ D rn c2) rfl rfl (by kernel_rfl) (fun _ _ _ h=>h) hst (Zn rfl (fun y hy=>by have c0:=Env.cell (hy) 0 5 rfl rfl;go_simp)) ?_;simp only[Qy,Qx];refine AB.tk 16 (Ψ K) rfl rfl (by kernel_rfl) (fun _ _ _ h=>h) hst (Wx.call rfl (fun w=>by kernel_rfl) (fun y hy=>HK.out y hy.below)) ?_;simp only[Qy,Qx];refine AB.tk 17 (Ψ S7) rfl rfl (by kernel_rfl) (fun _ _ _ h=>h) hst (Zdw hS7 rfl rfl rfl rfl (by omega)) ?_;simp only[Qy,Qx];refine AB.tk 18 (Ψ S7) rfl rfl (by kernel_rfl) (fun _ _ _ h=>h) hst (Zn rfl (fun y hy=>by go_simp)) ?_;simp only[Qy,Qx];refine AB.done (by kernel_rfl) (fun wn hS=>?_);have T:=Hh hS;clear hS hst;go_wp2
 go_ret;exact⟨rfl,T.out.below⟩
theorem rz_place(w0:World)(N:Nat→Prop)(p:Pl)(hv:VPl p)(vs:List Value)(hd:Zt N w0 p.ds vs)(hb:(Zhc p).size≤10000000000):RzC 10 w0 (.agg vs.toArray) (Zhc p):=by
 intro w by_;obtain⟨nm,ln,cl,rules⟩:=p;obtain⟨_,rfl,_,rfl,_,rfl,D,c2,zs,_,rfl,hn,hw,hz,rfl⟩:=hd;unfold Zhc at hb ⊢;dsimp only at hb ⊢;have zK:(Zkp rules).size≤10000000000:=by simp only[Δ]at hb;omega
 have zN:nm.size≤10000000000:=by simp only[Δ]at hb;omega
 have hr:=rz_rules w0 N rules hv.2 (Λ D rules.length c2) ⟨D,c2,zs,[],rfl,hn,hw,hz,rfl⟩ zK;have HK:=Hh (fun y (b:Below w.heap.size w y)=>hr.at_ by_ y b);generalize Zkp rules=K at *;generalize rules.length=rn at *;clear hn hw hz hb hr hv;have T:=Hh (Env.start w);go_enter Tryz.func10,Tryz.ntmps10;go_upto_region 1 with(first
 |((with_reducible refine Zd 1 ?_);refine Zk T.out 38 _ [Ψ nm,I J ln,I J cl,Λ D rn c2] rfl rfl rfl ?_;intro wn g0 tn;have T:=Hh tn;clear tn))
 refine Xg (fun x=>Env w [(g0,38,[Ψ nm,I J ln,I J cl,Λ D rn c2])] [] [] x) (by kernel_rfl) T.out.drew ?_;have hst:Zdp (fun x=>Env w [(g0,38,[Ψ nm,I J ln,I J cl,Λ D rn c2])] [] [] x):=fun x y h e=>Env.call h e
 refine AB.tk 0 (Ω (some ⟨g0,0,none⟩)) rfl rfl (by kernel_rfl) (fun _ _ _ h=>h) hst (Zn rfl (fun y hy=>by go_simp)) ?_;simp only[Qy,Qx];refine AB.tk 1 (Ψ nm) rfl rfl (by kernel_rfl) (fun _ _ _ h=>h) hst (Zn rfl (fun y hy=>by have c0:=Env.cell (hy) 0 0 rfl rfl;go_simp)) ?_;simp only[Qy,Qx];refine AB.tk 2 (Ψ (⟨#[112,108,97,99,101,32,34]⟩++nm)) rfl rfl (by kernel_rfl) (fun _ _ _ h=>h) hst (Yi rfl rfl rfl rfl (by(try simp only[Δ]);have z3:(⟨#[112,108,97,99,101,32,34]⟩:ByteArray).size=7:=rfl;have z4:(⟨#[34,32]⟩:ByteArray).size=2:=rfl;omega)) ?_;simp only[Qy,Qx];refine AB.tk 3 (Ψ (⟨#[112,108,97,99,101,32,34]⟩++nm++⟨#[34,32]⟩)) rfl rfl (by kernel_rfl) (fun _ _ _ h=>h) hst (Yi rfl rfl rfl rfl (by(try simp only[Δ]);have z3:(⟨#[112,108,97,99,101,32,34]⟩:ByteArray).size=7:=rfl;have z4:(⟨#[34,32]⟩:ByteArray).size=2:=rfl;omega)) ?_;simp only[Qy,Qx];refine AB.tk 4 (Ω (some ⟨g0,3,none⟩)) rfl rfl (by kernel_rfl) (fun _ _ _ h=>h) hst (Zn rfl (fun y hy=>by go_simp)) ?_;simp only[Qy,Qx];refine AB.tk 5 (Λ D rn c2) rfl rfl (by kernel_rfl) (fun _ _ _ h=>h) hst (Zn rfl (fun y hy=>by have c0:=Env.cell (hy) 0 3 rfl rfl;go_simp)) ?_;simp only[Qy,Qx];refine AB.tk 6 (Ψ K) rfl rfl (by kernel_rfl) (fun _ _ _ h=>h) hst (Wx.call rfl (fun w=>by kernel_rfl) (fun y hy=>HK.out y hy.below)) ?_;simp only[Qy,Qx];refine AB.tk 7 (Ψ (⟨#[112,108,97,99,101,32,34]⟩++nm++⟨#[34,32]⟩++K)) rfl rfl (by kernel_rfl) (fun _ _ _ h=>h) hst (Yi rfl rfl rfl rfl (by(try simp only[Δ]);have z3:(⟨#[112,108,97,99,101,32,34]⟩:ByteArray).size=7:=rfl;have z4:(⟨#[34,32]⟩:ByteArray).size=2:=rfl;omega)) ?_;simp only[Qy,Qx];refine AB.tk 8 (Ψ (⟨#[112,108,97,99,101,32,34]⟩++nm++⟨#[34,32]⟩++K)) rfl rfl (by kernel_rfl) (fun _ _ _ h=>h) hst (Zn rfl (fun y hy=>by go_simp)) ?_;simp only[Qy,Qx];refine AB.done (by kernel_rfl) (fun wn hS=>?_);have T:=Hh hS;clear hS hst;go_wp2
 go_ret;exact⟨rfl,T.out.below⟩
end Go.Proofs.YtdngkgickbaboaaGreat
