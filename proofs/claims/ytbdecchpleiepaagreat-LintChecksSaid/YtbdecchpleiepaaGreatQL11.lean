/- Parts of the proof. No conditions but those that each names. -/
import Derived.OwnWalk
import Derived.Maps.AppendAt
import Derived.Test.YtbdecchpleiepaaGreatQL10
set_option maxRecDepth 20000
set_option maxHeartbeats 99000000
set_option linter.unusedVariables false
set_option linter.unusedSimpArgs false
namespace Go.Proofs.YtbdecchpleiepaaGreat
open Go.Value renaming int→I,pointer→Ω,string→Ψ
open Go.IntKind renaming i64→J
open Go.ChangeShapes Go.WideShapes Go.ChangeAt Go.RowKit
def remW(q c:Nat)(w:World):Nat:=
 match w.cell? ⟨q,0,none⟩with
 |some (.pointer (some _))=>match w.cell? ⟨c,0,none⟩with | some v=>lenV v | none=>0
 |_=>0
theorem PAt.rem{w:World}{q c r K:Nat}{L:List TokV}{st:St}(h:PAt w q c r K L st):remW q c w=Zx L st:=by
 have h0:=h.cell;cases st with
 |ok a d=>
  have h1:w.cell? ⟨q,0,none⟩=some (Ω (some ⟨c,0,none⟩)):=h0;unfold remW;rw[h1];dsimp only;rw[(h.cur a d rfl).2.2.look.c0];rfl
 |bad F=>
  have h1:w.cell? ⟨q,0,none⟩=some (Ω none):=h0;unfold remW;rw[h1];rfl
def Fl.cells(f:Fl):List Value:=[I J f.kind,I J f.op,I J f.n,Ψ f.name]
def Zib(l:List Fl):List Value:=l.flatMap Fl.cells
theorem Zjr(l:List Fl)(f:Fl):Zib (l++[f])=Zib l++f.cells:=by unfold Zib;simp
theorem Zog:Tryz.prog.underlying 74=some (.slice 200):=by kernel_rfl
theorem Zoq:(Tryz.prog.info? 200).map (fun i=>(i.zero,i.size,i.bytes))=some (some (.agg #[I J 0,I J 0,I J 0,Ψ ⟨#[]⟩]),4,40):=by kernel_rfl
theorem row_fl:(Tryz.prog.underlying 200).map TypeDesc.isRow=some true:=by kernel_rfl
theorem Zfx:(Tryz.prog.info? 200).map (·.size)=some 4:=by kernel_rfl
theorem Zij:(Tryz.prog.info? 9).map (·.size)=some 1:=by kernel_rfl
structure Znf(w:World)(q c r K:Nat)(L:List TokV)(e:TypeId)(sz:Nat)(st:St)(n:Nat)(xs:List Value)(v:Value)(wr:World):Prop where
 mv:Xw w wr q c r K L st
 row:wr.ownsRow w.heap.size e sz v n xs
 qin:q<w.heap.size
 cin:c<w.heap.size
 rin:r<w.heap.size
theorem Znf.then{w x y:World}{q c r K n sz:Nat}{L:List TokV}{e:TypeId}{st st':St}{xs:List Value}{v:Value}(h:Znf w q c r K L e sz st n xs v x)(m:Xw x y q c r K L st'):Znf w q c r K L e sz st' n xs v y:=
 ⟨h.mv.then m,m.keeps.owns h.row (fun k hk c=>by have:=(h.row.lt k hk).1;have:=h.qin;have:=h.cin;omega),h.qin,h.cin,h.rin⟩
theorem Znf.next{w x y:World}{q c r K n sz:Nat}{L:List TokV}{e:TypeId}{st:St}{xs:List Value}{v:Value}(h:Znf w q c r K L e sz st n xs v x)(hb:Below x.heap.size x y):Znf w q c r K L e sz st n xs v y:=
 ⟨h.mv.next hb,Zfc h.row hb,h.qin,h.cin,h.rin⟩
theorem Znf.put{w x y:World}{q c r K n sz:Nat}{L:List TokV}{e t:TypeId}{st:St}{xs vs:List Value}{v:Value}(h:Znf w q c r K L e sz st n xs v x){G:Nat}(p:Put x y G t vs)(hG:w.heap.size≤G)(hn:v.ownBlock≠some G):Znf w q c r K L e sz st n xs v y:=
 ⟨h.mv.put p hG h.qin h.cin h.rin,p.keeps.owns h.row (fun k hk c=>hn (by rw[hk,c])),h.qin,h.cin,h.rin⟩
theorem Znf.push{w x y:World}{q c r K n sz:Nat}{L:List TokV}{e:TypeId}{st:St}{xs ys:List Value}{v v':Value}(h:Znf w q c r K L e sz st n xs v x)(ho:y.ownsRow w.heap.size e sz v' (n+1) ys)(hg:x.grownBy y v.ownBlock):Znf w q c r K L e sz st (n+1) ys v' y:=by
 have hk:Zy (fun k=>v.ownBlock=some k) x y:=Zy.grown (Zy.refl _ _) hg fun k hk=>hk
 have hb:∀ k,v.ownBlock=some k→w.heap.size≤k:=fun k hk=>(h.row.lt k hk).1
 refine⟨⟨h.mv.at_.keeps hk (fun e=>?_) (fun e=>?_) (fun e=>?_),?_⟩,ho,h.qin,h.cin,h.rin⟩
 ·have:=hb _ e;have:=h.qin;omega
 ·have:=hb _ e;have:=h.cin;omega
 ·have:=hb _ e;have:=h.rin;omega
 ·have h1:Zy (fun k=>(k=q∨k=c)∨v.ownBlock=some k) w x:=h.mv.keeps.mono fun k h=>.inl h
  have h2:Zy (fun k=>(k=q∨k=c)∨v.ownBlock=some k) x y:=hk.mono fun k h=>.inr h
  exact(h1.trans h2).inner fun k hk' h=>h.elim id fun e=>by have:=hb k e;omega
theorem Zen(L:List TokV)(ws:List ByteArray)(st:St):Zk L ws st≤ws.length:=by
 cases st with
 |ok a d=>exact Zey _ ws
 |bad F=>exact Nat.zero_le _
theorem Jb{P:Program}{ops:Array Oper}{rest:List Oper}{T:TypeId}{t:TypeId}{ps:String}{af:Array Edge}{gd:Option (Nat×Bool)}{a:Act}{w:World}{Q:Exit→Act→World→Prop}{x:Nat}{v:Value}
 (h:wpList P ops Q (⟨none,.store T (.tmp x) (.const v),t,ps,af,gd⟩::rest) a w):wpList P ops Q (⟨none,.store T (.tmp x) (.const v),t,ps,af,gd⟩::rest) a w:=h
theorem filters_step(nk:Int)(L:List TokV)(m:Nat)(st:St)(h:¬ Zk L Wt st=0):Yk nk L (m+1) st =
  ((Js nk L (Zk L Wt st) (Ye L Wt st)).1::(Yk nk L m (Js nk L (Zk L Wt st) (Ye L Wt st)).2).1,(Yk nk L m (Js nk L (Zk L Wt st) (Ye L Wt st)).2).2):=by
 rw[Yk,if_neg h]
theorem Zmd(nk:Int)(L:List TokV)(m:Nat)(st:St)(h:Zk L Wt st=0):Yk nk L (m+1) st=([],st):=by
 rw[Yk,if_pos h]
end Go.Proofs.YtbdecchpleiepaaGreat
