/- Parts of the proof. No conditions but those that each names. -/
import Derived.Test.YtbdecchpleiepaaGreatQL53
set_option maxRecDepth 20000
set_option maxHeartbeats 99000000
set_option linter.unusedVariables false
set_option linter.unusedSimpArgs false
namespace Go.Proofs.YtbdecchpleiepaaGreat
open Go.Value renaming int→I,slice→Λ,pointer→Ω,string→Ψ,oneCell'→Γ
open Go.IntKind renaming i64→J
open _root_.Go.Proofs.Tryz renaming prog→Φ
open Go.Ending renaming returned→η
open Go Go.RowKit
theorem walk_LintChecks(s:ByteArray)(w:World)(ws:s.size≤maxLen) :
  Calls Φ 3 #[Ψ s] w fun e w'=>e=η (.bool true)∧Below w.heap.size w w':=by
 unfold maxLen at ws;by_cases hz:8000<s.size
 ·go_enter Tryz.func3,Tryz.ntmps3
  go_wp2_with(go_at_call 5;refine(Zjo _).mono ?_;rintro e w1 ⟨rfl,hb1⟩)
  go_ret;exact⟨rfl,hb1⟩
 have hq:=fun y=>qFile s y (by omega)
 have hv:=parse_val 3 s (by omega);have hlk:=parse_few 3 s (by omega);obtain⟨f,hf⟩:∃ f,(Zcn 3 s).1=f:=⟨_,rfl⟩
 obtain⟨F,hF⟩:∃ F,(Zcn 3 s).2=F:=⟨_,rfl⟩
 rw[hf]at hq hv hlk;rw[hF]at hq;unfold Zhu at hq;clear hf hF;obtain⟨F0,F1,F2⟩:=F;unfold Zr at hq;dsimp only at hq;have hz2:s.size≤8000:=by omega
 clear hz;have T:=Hh (Env.start w);by_cases h0:F0=0
 ·subst h0
  have hC:=fun x N vs h=>lCheck_any f hlk.1 hlk.2 x N vs h
  have hD:=fun x N vs h=>rCheck_any f hv x N vs h
  obtain⟨X,hX⟩:∃ X,X=Zkw f:=⟨_,rfl⟩
  rw[←hX]at hC hD;clear hX hv hlk;obtain⟨x0,x1,x2⟩:=X;unfold faV at hC hD;dsimp only at hC hD;go_enter Tryz.func3,Tryz.ntmps3;go_wp2_with(first
 |(go_at_call 6;refine(hq _).mono ?_;rintro e w1 ⟨vs,rfl,d1,b1⟩;obtain⟨v0,v1,rfl⟩:=Zgg vs d1.len;have O1:=Hh d1.one;have T:=Hh (T.out.tree b1 d1);clear d1 b1)
 |((with_reducible refine Zd 3 ?_);refine Zb T.out 26 _ rfl rfl z_fi ?_;intro wa g0 tn;have T:=Hh tn;clear tn)
 |((with_reducible refine Zd 4 ?_);refine Zb T.out 29 _ rfl rfl Wu ?_;intro wb g1 tn;have T:=Hh tn;clear tn)
 |((with_reducible refine Zg 3 12 ?_);refine Za 26 _ _ 26 g0 _ [v0,v1] (T.out.get 0 rfl) rfl Va O1.out rfl rfl rfl rfl rfl ?_;intro wc p;have T:=Hh (T.out.put 0 rfl p);clear p)
 |((with_reducible refine Zg 4 13 ?_);refine Za 29 _ _ 29 g1 _ ([I J 0,I J (F1:Int),I J (F2:Int)]) (T.out.get 1 rfl) rfl Zj (by simp[Γ]) rfl rfl rfl rfl rfl ?_;intro wd p;have T:=Hh (T.out.put 1 rfl p);clear p;have k0:=T.out.cell 1 0 rfl rfl))
  refine Vv (fun x=>Env w [(g0,26,[v0,v1]),(g1,29,[I J 0,I J (F1:Int),I J (F2:Int)])] [] [(f.ds,[v0,v1])] x) (by kernel_rfl) T.out.drew ?_;have hst:Zgz (fun x=>Env w [(g0,26,[v0,v1]),(g1,29,[I J 0,I J (F1:Int),I J (F2:Int)])] [] [(f.ds,[v0,v1])] x):=fun x y h e=>Env.call h e
  refine AB.tk 0 (.agg ([v0,v1]:List Value).toArray) rfl rfl (by kernel_rfl) (fun _ _ _ h=>h) hst (Wv (by rfl) rfl rfl (fun y hy=>(hy.get 0 rfl).range0) Zck Va) ?_;simp only[Qy,Qx];refine AB.tk 1 (.agg #[I J x0,I J x1,I J x2]) rfl rfl (by kernel_rfl) (fun _ _ _ h=>h) hst (Wx.call rfl (fun w=>by kernel_rfl) (fun y hy=>hC _ _ [v0,v1] (hy.leaf 0 rfl))) ?_;simp only[Qy,Qx];refine AB.tk 2 (.agg ([v0,v1]:List Value).toArray) rfl rfl (by kernel_rfl) (fun _ _ _ h=>h) hst (Wv (by rfl) rfl rfl (fun y hy=>(hy.get 0 rfl).range0) Zck Va) ?_;simp only[Qy,Qx];refine AB.tk 3 (.agg #[I J x0,I J x1,I J x2]) rfl rfl (by kernel_rfl) (fun _ _ _ h=>h) hst (Wx.call rfl (fun w=>by kernel_rfl) (fun y hy=>hD _ _ [v0,v1] (hy.leaf 0 rfl))) ?_;simp only[Qy,Qx];refine AB.tk 4 (.bool true) rfl rfl (by kernel_rfl) (fun _ _ _ h=>h) hst (Yg rfl (fun y hy=>by go_simp)) ?_;simp only[Qy,Qx];refine AB.tk 5 (.bool true) rfl rfl (by kernel_rfl) (fun _ _ _ h=>h) hst (Uu rfl rfl rfl) ?_;simp only[Qy,Qx];refine AB.tk 6 (.bool true) rfl rfl (by kernel_rfl) (fun _ _ _ h=>h) hst (Wx.callG (by rfl) (fun w=>by kernel_rfl) (fun y hy=>Zjo y)) ?_;simp only[Qy,Qx];refine AB.tk 7 (.bool true) rfl rfl (by kernel_rfl) (fun _ _ _ h=>h) hst (Yg rfl (fun y hy=>by go_simp)) ?_;simp only[Qy,Qx];refine AB.tk 8 (.bool true) rfl rfl (by kernel_rfl) (fun _ _ _ h=>h) hst (Yg rfl (fun y hy=>by go_simp)) ?_;simp only[Qy,Qx];refine AB.done (by kernel_rfl) (fun wn hS=>?_);have T:=Hh hS;clear hS;go_wp2
  go_ret;exact⟨rfl,T.out.below⟩
 ·have hb:(F0 != 0)=true:=by simpa using h0
  clear h0 hv hlk;go_enter Tryz.func3,Tryz.ntmps3;go_wp2_with(first
 |(go_at_call 6;refine(hq _).mono ?_;rintro e w1 ⟨vs,rfl,d1,b1⟩;obtain⟨v0,v1,rfl⟩:=Zgg vs d1.len;have O1:=Hh d1.one;have T:=Hh (T.out.tree b1 d1);clear d1 b1)
 |((with_reducible refine Zd 3 ?_);refine Zb T.out 26 _ rfl rfl z_fi ?_;intro wa g0 tn;have T:=Hh tn;clear tn)
 |((with_reducible refine Zd 4 ?_);refine Zb T.out 29 _ rfl rfl Wu ?_;intro wb g1 tn;have T:=Hh tn;clear tn)
 |((with_reducible refine Zg 3 12 ?_);refine Za 26 _ _ 26 g0 _ [v0,v1] (T.out.get 0 rfl) rfl Va O1.out rfl rfl rfl rfl rfl ?_;intro wc p;have T:=Hh (T.out.put 0 rfl p);clear p)
 |((with_reducible refine Zg 4 13 ?_);refine Za 29 _ _ 29 g1 _ ([I J F0,I J (F1:Int),I J (F2:Int)]) (T.out.get 1 rfl) rfl Zj (by simp[Γ]) rfl rfl rfl rfl rfl ?_;intro wd p;have T:=Hh (T.out.put 1 rfl p);clear p;have k0:=T.out.cell 1 0 rfl rfl)
 |(go_at_call 5;refine(Zjo _).mono ?_;rintro e we ⟨rfl,bn⟩;have T:=Hh (T.out.call bn);clear bn))
  go_ret;exact⟨rfl,T.out.below⟩
end Go.Proofs.YtbdecchpleiepaaGreat
