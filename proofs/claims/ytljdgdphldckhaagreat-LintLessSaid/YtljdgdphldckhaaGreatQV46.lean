/-
  No conditions but those that each theorem names.
-/
import Derived.Test.YtljdgdphldckhaaGreatQV30
import Derived.Test.YtljdgdphldckhaaGreatQV44
import Derived.Test.YtljdgdphldckhaaGreatQV45
set_option maxRecDepth 20000
set_option maxHeartbeats 12800000
namespace Go.Proofs.YtljdgdphldckhaaGreat
open Go Go.RowKit
set_option linter.unusedVariables false
set_option linter.unusedSimpArgs false
theorem lz_fi2:(Tryz.prog.info? 26).map (fun i=>i.zero.map Value.cells)=some (some ([.slice none 0 0,.slice none 0 0]:List Value).toArray):=by kernel_rfl
theorem lz_fa2:(Tryz.prog.info? 29).map (fun i=>i.zero.map Value.cells)=some (some ([.int .i64 0,.int .i64 0,.int .i64 0]:List Value).toArray):=by kernel_rfl
theorem lsz_fi:(Tryz.prog.info? 26).map (·.size)=some 2:=by kernel_rfl
theorem lsz_fa:(Tryz.prog.info? 29).map (·.size)=some 3:=by kernel_rfl
theorem lsz_ca:(Tryz.prog.info? 35).map (·.size)=some 6:=by kernel_rfl
theorem lsz_pl:(Tryz.prog.info? 38).map (·.size)=some 4:=by kernel_rfl
theorem Env.rowD{w x:World}{bs:List Bk}{v:Value}{e:TypeId}{sz n:Nat}{xs:List Value}{ts:List (Ds×List Value)}{ds:Ds}(h:Env w bs [⟨v,e,sz,n,xs⟩] ts x)(hd:Deep (Free w bs [⟨v,e,sz,n,xs⟩]) x ds xs):Env w bs [] (ts++[(.row n ds .nil,[v])]) x:=by
 have ho:=h.row _ (List.mem_singleton.2 rfl);obtain⟨A,c,hv,hn,hw⟩:=own_within (show x.ownsRow w.heap.size e sz v n xs from ho);subst hv;have ha:=h.apart _ (List.mem_singleton.2 rfl);refine⟨h.at_,h.lo,h.nod,(fun r hr=>by cases hr),(fun r hr=>by cases hr),List.Pairwise.nil,fun u hu=>?_,h.below⟩;rcases List.mem_append.1 hu with hu | hu
 ·exact(h.deep u hu).mono fun k _ hk=>⟨hk.1,hk.2.1,(fun r hr=>by cases hr)⟩
 ·cases List.mem_singleton.1 hu
  refine⟨A,c,xs,[],rfl,hn,?_,hd.mono fun k _ hk=>⟨hk.1,hk.2.1,(fun r hr=>by cases hr)⟩,rfl⟩;rcases hw with h0 | ⟨g,rfl,hb,hlt,hc⟩
  ·exact .inl h0
  ·exact .inr ⟨g,rfl,⟨hb,fun b hb2 e=>ha b hb2 (by rw[e];rfl),(fun r hr=>by cases hr)⟩,hlt,hc⟩
theorem Env.treesL{w x:World}{bs:List Bk}{rs:List Rw}{ts us:List (Ds×List Value)}(h:Env w bs rs ts x)(hu:∀ u ∈ us,Deep (Free w bs rs) x u.1 u.2):Env w bs rs us x:=
 ⟨h.at_,h.lo,h.nod,h.row,h.apart,h.rapart,hu,h.below⟩
theorem fi_card{N:Nat→Prop}{w:World}{f:Fi}{A B:Option Addr}{nC nP c d:Nat}(h:Deep N w f.ds [.slice A nC c,.slice B nP d]){m:Nat}(hm:m<f.cards.length) :
  ∃ g ys,A=some ⟨g,0,none⟩∧g<w.heap.size∧w.rangeAt g (m*6) ys∧Deep N w (f.cards[m]'hm).ds ys:=by
 obtain⟨A1,c1,xs,_,e,n1,w1,d1,B1,p1,ys0,_,e2,n2,w2,d2,e3⟩:=h;obtain⟨pre,ys,post,rfl,hpre,hd⟩:=casDs_at d1 m hm;injection e with e e4;injection e with e5 e6 e7;subst e5;rcases w1 with w1 | ⟨g,rfl,h1,h2,h3⟩
 ·have hl:=hd.len
  simp at w1;rw[w1.2.1]at hl;simp[Ca.ds,Ds.len]at hl
 ·refine⟨g,ys,rfl,h2,?_,hd⟩
  intro j v hj;have hlt:=(List.getElem?_eq_some_iff.1 hj).1;have h4:=h3 (m*6+j) (by simp;omega);rw[h4,←hpre,List.append_assoc,List.getElem?_append_right (by omega),List.getElem?_append_left (by omega)];rw[show pre.length+j - pre.length=j from by omega];exact hj
theorem fi_place{N:Nat→Prop}{w:World}{f:Fi}{A B:Option Addr}{nC nP c d:Nat}(h:Deep N w f.ds [.slice A nC c,.slice B nP d]){m:Nat}(hm:m<f.places.length) :
  ∃ g ys,B=some ⟨g,0,none⟩∧g<w.heap.size∧w.rangeAt g (m*4) ys∧Deep N w (f.places[m]'hm).ds ys:=by
 obtain⟨A1,c1,xs,_,e,n1,w1,d1,B1,p1,ys0,_,rfl,n2,w2,d2,e3⟩:=h;obtain⟨pre,ys,post,rfl,hpre,hd⟩:=plsDs_at d2 m hm;injection e with e e4;injection e4 with e4 e8;injection e4 with e5 e6 e7;subst e5;rcases w2 with w2 | ⟨g,rfl,h1,h2,h3⟩
 ·have hl:=hd.len
  simp at w2;rw[w2.2.1]at hl;simp[Pl.ds,Ds.len]at hl
 ·refine⟨g,ys,rfl,h2,?_,hd⟩
  intro j v hj;have hlt:=(List.getElem?_eq_some_iff.1 hj).1;have h4:=h3 (m*4+j) (by simp;omega);rw[h4,←hpre,List.append_assoc,List.getElem?_append_right (by omega),List.getElem?_append_left (by omega)];rw[show pre.length+j - pre.length=j from by omega];exact hj
theorem casDs_take{l:List Ca}{m:Nat}(hm:m<l.length):casDs (l.take (m+1))=(casDs (l.take m)).app (l[m]'hm).ds:=by
 rw[List.take_add_one,List.getElem?_eq_getElem hm];exact Zgv _ _
theorem plsDs_take{l:List Pl}{m:Nat}(hm:m<l.length):plsDs (l.take (m+1))=(plsDs (l.take m)).app (l[m]'hm).ds:=by
 rw[List.take_add_one,List.getElem?_eq_getElem hm];exact Zgm _ _
end Go.Proofs.YtljdgdphldckhaaGreat
