/- Parts of the proof. No conditions but those that each names. -/
import Derived.Test.YtbdecchpleiepaaGreatQL11
set_option maxRecDepth 20000
set_option maxHeartbeats 99000000
set_option linter.unusedVariables false
set_option linter.unusedSimpArgs false
namespace Go.Proofs.YtbdecchpleiepaaGreat
open Go.Ending renaming returned→η
open Go.ChangeShapes Go.WideShapes Go.ChangeAt Go.RowKit
def Znt:List Fl→Ds
 |[]=>.nil
 |f::r=>.int f.kind (.int f.op (.int f.n (.str f.name (Znt r))))
def Se.ds(s:Se):Ds:=.int s.kind (.int s.side (.int s.wh (.int s.lane (.row s.fs.length (Znt s.fs) (.int s.pick .nil)))))
theorem fls_deep(N:Nat→Prop)(w:World):∀ l:List Fl,Zs N w (Znt l) (Zib l)
 |[]=>rfl
 |f::r=>⟨_,rfl,_,rfl,_,rfl,_,rfl,fls_deep N w r⟩
theorem Zjk:(Tryz.prog.underlying 76).map TypeDesc.isRow=some true:=by kernel_rfl
theorem Vi:(Tryz.prog.info? 76).map (·.size)=some 6:=by kernel_rfl
theorem size_fls:(Tryz.prog.info? 74).map (·.size)=some 1:=by kernel_rfl
def Vq(w:World)(q c r K:Nat)(L:List TokV)(st:St)(ds:Ds)(e:Ending)(w':World):Prop:=
 ∃ vs:List Value,e=η (.agg vs.toArray)∧Zs (fun k=>w.heap.size≤k) w' ds vs∧Xw w w' q c r K L st
theorem Zs.move{B:Nat}{w w':World}{q c r K:Nat}{L:List TokV}{st:St}{ds:Ds}{vs:List Value}(h:Zs (fun k=>B≤k) w ds vs)(m:Xw w w' q c r K L st)(hq:q<B)(hc:c<B):Zs (fun k=>B≤k) w' ds vs:=
 h.keeps m.keeps fun k _ hk=>⟨fun e=>by omega,hk⟩
theorem Zs.put{B:Nat}{w w':World}{g:Nat}{t:TypeId}{cs:List Value}{ds:Ds}{vs:List Value}(h:Zs (fun k=>B≤k) w ds vs)(p:Put w w' g t cs)(hg:g<B):Zs (fun k=>B≤k) w' ds vs:=
 h.keeps p.keeps fun k _ hk=>⟨fun e=>by omega,hk⟩
theorem Zs.lower{B C:Nat}{w:World}{ds:Ds}{vs:List Value}(h:Zs (fun k=>B≤k) w ds vs)(hc:C≤B):Zs (fun k=>C≤k) w ds vs:=h.mono fun k _ hk=>by omega
def Ex.ds:Ex→Ds
 |.leaf k n s sd tk tl=>.int k (.int n (s.ds.app (.int sd (.int tk (.int tl (.row 0 .nil .nil))))))
 |.bin op l r=>.int 7 (.int op (zSe.ds.app (.int 0 (.int 0 (.int 0 (.row 2 (l.ds.app r.ds) .nil))))))
theorem Ex.ds_len:∀ x:Ex,x.ds.len=12
 |.leaf _ _ _ _ _ _=>rfl
 |.bin _ _ _=>rfl
theorem Yy:(Tryz.prog.underlying 81).map TypeDesc.isRow=some true:=by kernel_rfl
theorem Yi:(Tryz.prog.info? 81).map (·.size)=some 12:=by kernel_rfl
theorem Zda:∀ vs:List Value,vs.length=12→∃ a b c d e f g h i j k l,vs=[a,b,c,d,e,f,g,h,i,j,k,l]
 |[a,b,c,d,e,f,g,h,i,j,k,l],_=>⟨a,b,c,d,e,f,g,h,i,j,k,l,rfl⟩
end Go.Proofs.YtbdecchpleiepaaGreat
