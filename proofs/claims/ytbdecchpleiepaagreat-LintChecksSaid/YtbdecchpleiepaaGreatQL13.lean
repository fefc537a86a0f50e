/- Parts of the proof. No conditions but those that each names. -/
import Derived.Test.YtbdecchpleiepaaGreatQL12
set_option maxRecDepth 20000
set_option maxHeartbeats 99000000
set_option linter.unusedVariables false
set_option linter.unusedSimpArgs false
namespace Go.Proofs.YtbdecchpleiepaaGreat
open Go.Value renaming int→I,slice→Λ
open Go.IntKind renaming i64→J
open Nat renaming le_refl→Θ
open Go.ChangeShapes Go.WideShapes Go.ChangeAt Go.RowKit
theorem Zs.len12{N:Nat→Prop}{w:World}{x:Ex}{vs:List Value}(h:Zs N w x.ds vs):vs.length=12:=h.len.trans x.ds_len
theorem Se.ds_len(s:Se):s.ds.len=6:=rfl
theorem zEx_deep(N:Nat→Prop)(w:World):Zs N w zEx.ds [I J 0,I J 0,I J 0,I J 0,I J 0,I J 0,Λ none 0 0,I J 0,I J 0,I J 0,I J 0,Λ none 0 0]:=⟨_,rfl,_,rfl,_,rfl,_,rfl,_,rfl,_,rfl,none,0,[],_,rfl,⟨Nat.zero_le _,Θ _⟩,.inl rfl,rfl,_,rfl,_,rfl,_,rfl,_,rfl,none,0,[],_,rfl,⟨Nat.zero_le _,Θ _⟩,.inl rfl,rfl,rfl⟩
theorem idx_inv(v:TokV):∀ ws:List ByteArray,(Zaz v ws=0→∀ j,j<ws.length→isT v (ws.getD j ⟨#[]⟩)=false) ∧
  (∀ k,Zaz v ws=k+1→k<ws.length∧(∀ j,j<k→isT v (ws.getD j ⟨#[]⟩)=false)∧isT v (ws.getD k ⟨#[]⟩)=true)
 |[]=>⟨fun _ j hj=>absurd hj (Nat.not_lt_zero j),fun k h=>by cases h⟩
 |t::r=>by
  obtain⟨h1,h2⟩:=idx_inv v r;unfold Zaz;by_cases ht:isT v t=true
  ·rw[if_pos ht]
   refine⟨fun h=>(by cases h),fun k h=>?_⟩;obtain rfl:k=0:=by omega
   exact⟨by rw[List.length_cons];omega,fun j hj=>absurd hj (Nat.not_lt_zero j),ht⟩
  ·have ht':isT v t=false:=by simpa using ht
   rw[if_neg ht];by_cases hr:Zaz v r=0
   ·rw[if_pos hr]
    refine⟨fun _ j hj=>?_,fun k h=>by cases h⟩;cases j with
    |zero=>exact ht'
    |succ j=>exact h1 hr j (by rw[List.length_cons]at hj;omega)
   ·rw[if_neg hr]
    refine⟨fun h=>by omega,fun k h=>?_⟩;obtain⟨m,rfl⟩:∃ m,k=m+1:=⟨k - 1,by omega⟩
    obtain⟨a,b,c⟩:=h2 m (by omega);refine⟨by rw[List.length_cons];omega,fun j hj=>?_,c⟩;cases j with
    |zero=>exact ht'
    |succ j=>exact b j (by omega)
theorem find_inv(L:List TokV)(ws:List ByteArray)(st:St):(Zk L ws st=0→∀ j,j<ws.length→isS L (ws.getD j ⟨#[]⟩) st=false) ∧
  (∀ k,Zk L ws st=k+1→(∀ j,j<k→isS L (ws.getD j ⟨#[]⟩) st=false)∧isS L (ws.getD k ⟨#[]⟩) st=true∧Ye L ws st=Vu L (ws.getD k ⟨#[]⟩) st):=by
 cases st with
 |ok a d=>
  obtain⟨h1,h2⟩:=idx_inv (Yb L a) ws;refine⟨h1,fun k h=>?_⟩;obtain⟨a1,a2,a3⟩:=h2 k h;exact⟨a2,a3,(find_hit L ws (.ok a d) k a1 a2 a3).2⟩
 |bad F=>exact⟨fun _ _ _=>rfl,fun k h=>by cases h⟩
theorem Uq{N:Nat→Prop}{w:World}(k n:Int)(s:Se)(sd tk tl:Int){vs:List Value}(h:Zs N w s.ds vs):Zs N w (Ex.leaf k n s sd tk tl).ds ([I J k,I J n]++vs++[I J sd,I J tk,I J tl,Λ none 0 0]):=
 ⟨_,rfl,_,rfl,Zs.app (y:=.int sd (.int tk (.int tl (.row 0 .nil .nil)))) (us:=[I J sd,I J tk,I J tl,Λ none 0 0]) ⟨_,rfl,_,rfl,_,rfl,none,0,[],_,rfl,⟨Nat.zero_le _,Θ _⟩,.inl rfl,rfl,rfl⟩ h⟩
theorem Zas(N:Nat→Prop)(w:World):Zs N w zSe.ds [I J 0,I J 0,I J 0,I J 0,Λ none 0 0,I J 0]:=⟨_,rfl,_,rfl,_,rfl,_,rfl,none,0,[],_,rfl,⟨Nat.zero_le _,Θ _⟩,.inl rfl,rfl,_,rfl,rfl⟩
theorem Zs.len6{N:Nat→Prop}{w:World}{x:Se}{vs:List Value}(h:Zs N w x.ds vs):vs.length=6:=h.len
theorem Wo{vs:List Value}(h:vs.length=12):(Tryz.prog.info? 81).map (·.size)=some vs.length:=by rw[h];exact Yi
end Go.Proofs.YtbdecchpleiepaaGreat
