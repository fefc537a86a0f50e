/- Parts of the proof. No conditions but those that each names. -/
import Derived.Test.YtbdecchpleiepaaGreatQL13
set_option maxRecDepth 20000
set_option maxHeartbeats 99000000
set_option linter.unusedVariables false
set_option linter.unusedSimpArgs false
namespace Go.Proofs.YtbdecchpleiepaaGreat
open Go.Value renaming int→I,slice→Λ
open Go.IntKind renaming i64→J
open Nat renaming le_refl→Θ
open Go.ChangeShapes Go.WideShapes Go.ChangeAt Go.RowKit
theorem PAt.drew{w:World}{q c r K:Nat}{L:List TokV}{st:St}(h:PAt w q c r K L st):PAt w.drew q c r K L st:=
 h.keeps (S:=fun _=>False) (Zy.drew (Zy.refl _ _)) id id id
theorem Xw.drew{w x:World}{q c r K:Nat}{L:List TokV}{st:St}(m:Xw w x q c r K L st):Xw w x.drew q c r K L st:=⟨m.at_.drew,m.keeps.drew⟩
structure ExW(w:World)(q c r K:Nat)(L:List TokV)(G:Nat)(s:St)(x:Ex)(l:List Value)(wr:World):Prop where
 mv:Xw w wr q c r K L s
 res:Zi wr w.heap.size 81 [I J 0,I J 0,I J 0,I J 0,I J 0,I J 0,Λ none 0 0,I J 0,I J 0,I J 0,I J 0,Λ none 0 0].toArray
 var:Zi wr G 81 l.toArray
 deep:Zs (fun k=>w.heap.size+1≤k∧k≠G) wr x.ds l
 hG:w.heap.size+1≤G
 qin:q<w.heap.size
 cin:c<w.heap.size
 rin:r<w.heap.size
theorem ExW.then{w y z:World}{q c r K G:Nat}{L:List TokV}{s s':St}{x:Ex}{l:List Value}(h:ExW w q c r K L G s x l y)(m:Xw y z q c r K L s'):ExW w q c r K L G s' x l z:=
 ⟨h.mv.then m,m.keeps.whole h.res (by have:=h.qin;have:=h.cin;omega),m.keeps.whole h.var (by have:=h.qin;have:=h.cin;have:=h.hG;omega),
   h.deep.keeps m.keeps (fun k _ hk=>⟨by have:=h.qin;have:=h.cin;omega,hk⟩),h.hG,h.qin,h.cin,h.rin⟩
theorem ExW.next{w y z:World}{q c r K G:Nat}{L:List TokV}{s:St}{x:Ex}{l:List Value}(h:ExW w q c r K L G s x l y)(hb:Below y.heap.size y z):ExW w q c r K L G s x l z:=
 ⟨h.mv.next hb,h.res.below hb h.res.inside,h.var.below hb h.var.inside,h.deep.below hb,h.hG,h.qin,h.cin,h.rin⟩
theorem ExW.drew{w y:World}{q c r K G:Nat}{L:List TokV}{s:St}{x:Ex}{l:List Value}(h:ExW w q c r K L G s x l y):ExW w q c r K L G s x l y.drew:=
 ⟨h.mv.drew,h.res.drew,h.var.drew,h.deep.keeps (S:=fun _=>False) (Zy.drew (Zy.refl _ _)) (fun k _ hk=>⟨id,hk⟩),h.hG,h.qin,h.cin,h.rin⟩
theorem ExW.bin{w y z z':World}{q c r K G:Nat}{L:List TokV}{s s':St}{x x2:Ex}{l vs:List Value}(h:ExW w q c r K L G s x l y)(hyz:Xw y z q c r K L s'){B:Nat}(hB:G<B)(d:Zs (fun k=>B≤k) z x2.ds vs)(op:Int){g:Nat}(g1:z.heap.size≤g)(g2:g<z'.heap.size)
  (hrow:∀ j,j<(l++vs).length→z'.cell? ⟨g,j,none⟩=(l++vs)[j]?)(hb:Below z.heap.size z z'){z2:World}(p:Put z' z2 G 81 [I J 7,I J op,I J 0,I J 0,I J 0,I J 0,Λ none 0 0,I J 0,I J 0,I J 0,I J 0,Λ (some ⟨g,0,none⟩) 2 2]) :
  ExW w q c r K L G s' (.bin op x x2) [I J 7,I J op,I J 0,I J 0,I J 0,I J 0,Λ none 0 0,I J 0,I J 0,I J 0,I J 0,Λ (some ⟨g,0,none⟩) 2 2] z2:=by
 have hG:=h.hG;have h1:=(h.then hyz).next hb;have hv:=h.var.inside;have hs:=hyz.keeps.size;refine⟨h1.mv.put p (by omega) h.qin h.cin h.rin,p.keeps.whole h1.res (by omega),p.whole,?_,hG,h.qin,h.cin,h.rin⟩;have d1:Zs (fun k=>w.heap.size+1≤k∧k≠G) z2 x.ds l:=h1.deep.keeps p.keeps fun k _ hk=>⟨hk.2,hk⟩
 have d2:Zs (fun k=>w.heap.size+1≤k∧k≠G) z2 x2.ds vs:=(d.below hb).keeps p.keeps fun k _ hk=>⟨by omega,by omega,by omega⟩
 refine⟨_,rfl,_,rfl,_,rfl,_,rfl,_,rfl,_,rfl,none,0,[],_,rfl,⟨Nat.zero_le _,Θ _⟩,.inl rfl,rfl,_,rfl,_,rfl,_,rfl,_,rfl,some ⟨g,0,none⟩,2,l++vs,[],rfl,by omega,.inr ⟨g,rfl,⟨by omega,by omega⟩,Nat.lt_of_lt_of_le g2 p.keeps.size,fun j hj=>?_⟩,Zs.app d2 d1,rfl⟩;exact(World.cell?_of_block (a:=⟨g,j,none⟩) (p.keeps.block g g2 (by omega))).trans (hrow j hj)
end Go.Proofs.YtbdecchpleiepaaGreat
