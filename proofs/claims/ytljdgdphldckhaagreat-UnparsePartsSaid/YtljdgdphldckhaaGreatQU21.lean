/-
  No conditions but those that each theorem names.
-/
import Derived.Test.YtljdgdphldckhaaGreatQU20
set_option maxRecDepth 20000
set_option maxHeartbeats 12800000
namespace Go.Proofs.YtljdgdphldckhaaGreat
open Go.ChangeShapes Go.WideShapes Go.ChangeAt Go.RowKit
set_option linter.unusedVariables false
set_option linter.unusedSimpArgs false
theorem Zjo:(Tryz.prog.underlying 48).map TypeDesc.isRow=some true:=by kernel_rfl
theorem Jv:(Tryz.prog.info? 48).map (·.size)=some 2:=by kernel_rfl
theorem Yl:(Tryz.prog.info? 3).map (·.size)=some 1:=by kernel_rfl
theorem Wb.put{w x y:World}{q c r K:Nat}{L:List TokV}{st:St}(m:Wb w x q c r K L st){G:Nat}{t:TypeId}{vs:List Value}(p:Put x y G t vs)(hG:w.heap.size≤G)(hq:q<w.heap.size)(hc:c<w.heap.size)(hr:r<w.heap.size):Wb w y q c r K L st:=m.on p.keeps hG hq hc hr
theorem xto(w:World)(q c r K:Nat)(L:List TokV)(st:St)(h:PAt w q c r K L st) :
  Calls Tryz.prog 221 #[.pointer (some ⟨q,0,none⟩)] w (Xt w q c r K L (toS L st) (.agg #[.int .i64 (toK L st),.int .i64 (toL L st)])):=by
 have qin:=h.whole.inside;have cin:=h.cin;have rin:=h.rin;have nb:=Zh w (.cells #[.int .i64 0,.int .i64 0] 48);have M0:=Hh ((Wb.start h).next nb);have R0:=Hh (Zd.made w 48 #[.int .i64 0,.int .i64 0]);have hf:=xoneB _ q c r K (w.heap.size+1) L st wTo 4 4 _ rfl (by simp) M0.out.at_ rfl (by decide);clear h;unfold toS toK toL;generalize hk:Zj L wTo st=k at *;generalize Zm L wTo st=s1 at *;clear hk;by_cases h4:k=4
 ·subst h4
  rw[if_pos rfl,if_pos rfl];rw[show((4:Nat):Int)=4 from rfl]at hf ⊢;go_enter Tryz.func221,Tryz.ntmps221;go_wp2_with(first
 |(go_at_call 257;refine hf.mono ?_;rintro e w1 ⟨rfl,m1⟩
   have nb:=Zh w1 (.cells #[.int .i64 4,.int .i64 0] 48);have hcell:=(m1.at_.below nb).cell;have hz1:w.heap.size+1≤w1.heap.size:=by have:=m1.keeps.size;simp at this;omega
   have T1:=Hh (Zd.made w1 48 #[.int .i64 4,.int .i64 0]);have R1:=Hh ((m1.keeps.whole R0.out (by omega)).below nb (by omega));have M1:=Hh ((M0.out.then m1).next nb);clear m1 nb)
 |(go_at_call 179;refine(xreadInt _ q c r K L _ M1.out.at_).mono ?_;rintro e w2 ⟨rfl,m2⟩
   have hz2:w1.heap.size+1≤w2.heap.size:=by have:=m2.keeps.size;simp at this;omega
   have T2:=Hh (m2.keeps.whole T1.out (by omega));have R2:=Hh (m2.keeps.whole R1.out (by omega));have M2:=Hh (M1.out.then m2);clear m2)
 |((with_reducible refine Zi 18 17 ?_);refine Zo 3 _ _ 48 w1.heap.size 1 [.int .i64 4] (.int .i64 0) (.int .i64 (Zfz L s1)) [] T2.out rfl Yl rfl rfl rfl rfl rfl rfl ?_
   intro w3 p3;have T3:=Hh (show Zd w3 w1.heap.size 48 [.int .i64 4,.int .i64 (Zfz L s1)].toArray from p3.whole);have R3:=Hh (p3.keeps.whole R2.out (by omega));have M3:=Hh (M2.out.put p3 (by omega) qin cin rin);clear p3)
 |((with_reducible refine Ze 19 ?_);refine Zb 48 _ 48 w1.heap.size _ T3.out Zjo Jv rfl rfl rfl ?_)
 |((with_reducible refine Zi 2 19 ?_);refine Za 48 _ _ 48 w.heap.size _ [.int .i64 4,.int .i64 (Zfz L s1)] R3.out rfl Jv (by simp[Value.oneCell']) rfl rfl rfl rfl rfl ?_
   intro w4 p4;have R4:=Hh p4.whole;have M4:=Hh (M3.out.put p4 (Nat.le_refl _) qin cin rin);clear p4))
  exact Wp 2 48 48 w.heap.size _ rfl R4.out Zjo Jv rfl rfl ⟨rfl,M4.out⟩
 ·rw[if_neg h4,if_neg h4]
  have q4:((k:Int) == 4)=false:=by rw[beq_eq_false_iff_ne];omega
  clear h4;go_enter Tryz.func221,Tryz.ntmps221;go_wp2_with(first
 |(go_at_call 257;refine hf.mono ?_;rintro e w1 ⟨rfl,m1⟩
   have nb:=Zh w1 (.cells #[.int .i64 (k:Int),.int .i64 0] 48);have hz1:w.heap.size+1≤w1.heap.size:=by have:=m1.keeps.size;simp at this;omega
   have T1:=Hh (Zd.made w1 48 #[.int .i64 (k:Int),.int .i64 0]);have R1:=Hh ((m1.keeps.whole R0.out (by omega)).below nb (by omega));have M1:=Hh ((M0.out.then m1).next nb);clear m1 nb)
 |((with_reducible refine Ze 19 ?_);refine Zb 48 _ 48 w1.heap.size _ T1.out Zjo Jv rfl rfl rfl ?_)
 |((with_reducible refine Zi 2 19 ?_);refine Za 48 _ _ 48 w.heap.size _ [.int .i64 (k:Int),.int .i64 0] R1.out rfl Jv (by simp[Value.oneCell']) rfl rfl rfl rfl rfl ?_
   intro w4 p4;have R4:=Hh p4.whole;have M4:=Hh (M1.out.put p4 (Nat.le_refl _) qin cin rin);clear p4))
  exact Wp 2 48 48 w.heap.size _ rfl R4.out Zjo Jv rfl rfl ⟨rfl,M4.out⟩
end Go.Proofs.YtljdgdphldckhaaGreat
