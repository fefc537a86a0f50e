/-
  No conditions but those that each theorem names.
-/
import Derived.Test.YtljdgdphldckhaaGreatQU23
set_option maxRecDepth 20000
set_option maxHeartbeats 12800000
namespace Go.Proofs.YtljdgdphldckhaaGreat
open Go.ChangeShapes Go.WideShapes Go.ChangeAt Go.RowKit
set_option linter.unusedVariables false
set_option linter.unusedSimpArgs false
def Ex.ds:Ex→Ds
 |.leaf k n s sd tk tl=>.int k (.int n (s.ds.app (.int sd (.int tk (.int tl (.row 0 .nil .nil))))))
 |.bin op l r=>.int 7 (.int op (zSe.ds.app (.int 0 (.int 0 (.int 0 (.row 2 (l.ds.app r.ds) .nil))))))
theorem Ex.ds_len:∀ x:Ex,x.ds.len=12
 |.leaf _ _ _ _ _ _=>rfl
 |.bin _ _ _=>rfl
theorem Xh:(Tryz.prog.underlying 51).map TypeDesc.isRow=some true:=by kernel_rfl
theorem Yi:(Tryz.prog.info? 51).map (·.size)=some 12:=by kernel_rfl
theorem Zcm:∀ vs:List Value,vs.length=12→∃ a b c d e f g h i j k l,vs=[a,b,c,d,e,f,g,h,i,j,k,l]
 |[a,b,c,d,e,f,g,h,i,j,k,l],_=>⟨a,b,c,d,e,f,g,h,i,j,k,l,rfl⟩
def BinPost(w:World)(op:Int)(ls rs:List Value)(e:Ending)(w':World):Prop:=
 ∃ g,w.heap.size≤g∧g<w'.heap.size∧e=.returned (.agg [.int .i64 7,.int .i64 op,.int .i64 0,.int .i64 0,.int .i64 0,.int .i64 0,.slice none 0 0,.int .i64 0,.int .i64 0,.int .i64 0,.int .i64 0,.slice (some ⟨g,0,none⟩) 2 2].toArray) ∧
  (∀ j,j<(ls++rs).length→w'.cell? ⟨g,j,none⟩=(ls++rs)[j]?)∧Below w.heap.size w w'
theorem xbinary(w:World)(op:Int)(ls rs:List Value)(hl:ls.length=12)(hr:rs.length=12)(h1:∀ v ∈ ls,v.oneCell'=true)(h2:∀ v ∈ rs,v.oneCell'=true) :
  Calls Tryz.prog 148 #[.int .i64 op,.agg ls.toArray,.agg rs.toArray] w (BinPost w op ls rs):=by
 obtain⟨a0,a1,a2,a3,a4,a5,a6,a7,a8,a9,a10,a11,rfl⟩:=Zcm ls hl;obtain⟨b0,b1,b2,b3,b4,b5,b6,b7,b8,b9,b10,b11,rfl⟩:=Zcm rs hr;have B1:=Zd.made w 51 [a0,a1,a2,a3,a4,a5,a6,a7,a8,a9,a10,a11].toArray;have B2:=B1.alloc (.cells [b0,b1,b2,b3,b4,b5,b6,b7,b8,b9,b10,b11].toArray 51);clear hl hr h1 h2;go_enter Tryz.func148,Tryz.ntmps148;go_wp2
 have HW:=(Zd.made ((w.alloc (.cells #[a0,a1,a2,a3,a4,a5,a6,a7,a8,a9,a10,a11] 51)).alloc (.cells #[b0,b1,b2,b3,b4,b5,b6,b7,b8,b9,b10,b11] 51)) 51 [.int .i64 7,.int .i64 op,.int .i64 0,.int .i64 0,.int .i64 0,.int .i64 0,.slice none 0 0,.int .i64 0,.int .i64 0,.int .i64 0,.int .i64 0,.slice (some ⟨w.heap.size+1+1+1,0,none⟩) 2 2].toArray).alloc (.cells #[a0,a1,a2,a3,a4,a5,a6,a7,a8,a9,a10,a11,b0,b1,b2,b3,b4,b5,b6,b7,b8,b9,b10,b11] 51);simp only[World.size_alloc]at HW;refine Wp 6 51 51 (w.heap.size+1+1) _ rfl HW Xh Yi rfl rfl ⟨w.heap.size+1+1+1,by omega,by simp,rfl,?_,?_⟩
 ·have HR:=Zd.made (((w.alloc (.cells #[a0,a1,a2,a3,a4,a5,a6,a7,a8,a9,a10,a11] 51)).alloc (.cells #[b0,b1,b2,b3,b4,b5,b6,b7,b8,b9,b10,b11] 51)).alloc (.cells [.int .i64 7,.int .i64 op,.int .i64 0,.int .i64 0,.int .i64 0,.int .i64 0,.slice none 0 0,.int .i64 0,.int .i64 0,.int .i64 0,.int .i64 0,.slice (some ⟨w.heap.size+1+1+1,0,none⟩) 2 2].toArray 51)) 51 #[a0,a1,a2,a3,a4,a5,a6,a7,a8,a9,a10,a11,b0,b1,b2,b3,b4,b5,b6,b7,b8,b9,b10,b11]
  simp only[World.size_alloc]at HR;intro j _;rw[HR.read j];simp
 ·exact((((Below.refl _ _).alloc (Nat.le_refl _) _).alloc (by simp) _).alloc (by simp;omega) _).alloc (by simp;omega) _
end Go.Proofs.YtljdgdphldckhaaGreat
