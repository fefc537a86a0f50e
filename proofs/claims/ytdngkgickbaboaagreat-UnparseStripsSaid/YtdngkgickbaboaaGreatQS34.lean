/-
  No conditions but those that each theorem names.
-/
import Derived.Test.YtdngkgickbaboaaGreatQS33
set_option maxRecDepth 20000
set_option maxHeartbeats 12800000
namespace Go.Proofs.YtdngkgickbaboaaGreat
open Go.Great Go.ChangeShapes Go.WideShapes Go.ChangeAt Go.RowKit
set_option linter.unusedVariables false
set_option linter.unusedSimpArgs false
def blkIn(lo hi:Nat)(u:Value):Prop:=∀ k,u.ownBlock=some k→lo≤k∧k<hi
def SpA(lo hi:Nat)(w:World)(u:Value):Prop:=∃ n zs,w.ownsRow lo 58 53 u n zs∧blkIn lo hi u
def SpR(lo hi:Nat)(w:World)(u:Value):Prop:=∃ n zs,w.ownsRow lo 46 5 u n zs∧blkIn lo hi u∧∀ m,m<n→∃ v,zs[m*5+4]?=some v∧SpA lo hi w v
def SpC(lo hi:Nat)(w:World)(u:Value):Prop:=∃ n zs,w.ownsRow lo 35 6 u n zs∧blkIn lo hi u∧∀ m,m<n→∃ v,zs[m*6+5]?=some v∧SpR lo hi w v
theorem elm_get{sz m j:Nat}{zs:List Value}(h:j<sz):(elm sz m zs)[j]?=zs[m*sz+j]?:=by
 unfold elm;rw[List.getElem?_take,if_pos h,List.getElem?_drop]
theorem own_in{w:World}{lo:Nat}{T:TypeId}{sz:Nat}{u:Value}{n:Nat}{zs:List Value}(h:w.ownsRow lo T sz u n zs):blkIn lo w.heap.size u:=fun k hk=>h.lt k hk
theorem Zmr.sp{lo:Nat}{w:World}{u:Value}{l:List Ru}(h:Zmr lo w u l):SpR lo w.heap.size w u:=by
 obtain⟨zs,h1,h2⟩:=h;refine⟨_,zs,h1,own_in h1,fun m hm=>?_⟩;obtain⟨_,v,hv,ys,h3⟩:=h2 m hm;rw[elm_get (by omega)]at hv;exact⟨v,hv,_,ys,h3,own_in h3⟩
theorem Zlz.sp{lo:Nat}{w:World}{u:Value}{l:List Ca}(h:Zlz lo w u l):SpC lo w.heap.size w u:=by
 obtain⟨zs,h1,h2⟩:=h;refine⟨_,zs,h1,own_in h1,fun m hm=>?_⟩;obtain⟨_,v,hv,h3⟩:=h2 m hm;rw[elm_get (by omega)]at hv;exact⟨v,hv,h3.sp⟩
theorem SpA.keep{lo hi:Nat}{w w':World}{u:Value}{S:Nat→Prop}(h:SpA lo hi w u)(k:Zq S w w')(hs:∀ k,S k→hi≤k):SpA lo hi w' u:=by
 obtain⟨n,zs,h1,h2⟩:=h;exact⟨n,zs,k.owns h1 fun j hj hS=>by have:=(h2 j hj).2;have:=hs j hS;omega,h2⟩
theorem SpR.keep{lo hi:Nat}{w w':World}{u:Value}{S:Nat→Prop}(h:SpR lo hi w u)(k:Zq S w w')(hs:∀ k,S k→hi≤k):SpR lo hi w' u:=by
 obtain⟨n,zs,h1,h2,h3⟩:=h;exact⟨n,zs,k.owns h1 fun j hj hS=>by have:=(h2 j hj).2;have:=hs j hS;omega,h2,fun m hm=>by obtain⟨v,hv,h4⟩:=h3 m hm;exact⟨v,hv,h4.keep k hs⟩⟩
theorem SpC.keep{lo hi:Nat}{w w':World}{u:Value}{S:Nat→Prop}(h:SpC lo hi w u)(k:Zq S w w')(hs:∀ k,S k→hi≤k):SpC lo hi w' u:=by
 obtain⟨n,zs,h1,h2,h3⟩:=h;exact⟨n,zs,k.owns h1 fun j hj hS=>by have:=(h2 j hj).2;have:=hs j hS;omega,h2,fun m hm=>by obtain⟨v,hv,h4⟩:=h3 m hm;exact⟨v,hv,h4.keep k hs⟩⟩
theorem Zlq{w w':World}{lo g:Nat}{T T':TypeId}{sz:Nat}{u:Value}{n:Nat}{zs cs:List Value}(h:w.ownsRow lo T sz u n zs)(hW:Zf w g T' cs.toArray)(hT:T'≠T)(k:Zq (fun k=>k=g) w w'):w'.ownsRow lo T sz u n zs:=by
 refine k.owns h fun j hj e=>?_
 subst e;rcases h.2 with⟨rfl,_⟩ | ⟨g',cap,cur,rfl,_,hg,_⟩
 ·simp[Value.ownBlock]at hj
 ·simp only[Value.ownBlock,Option.some.injEq]at hj
  subst hj;unfold Zf at hW;rw[hg]at hW;injection hW with hW;injection hW with _ hW;exact hT hW.symm
theorem own_same{w w':World}{lo g:Nat}{T:TypeId}{sz:Nat}{u:Value}{n:Nat}{zs cs ds:List Value}(h:w.ownsRow lo T sz u n zs)(hW:Zf w g T cs.toArray)(hl:ds.length=cs.length)(p:Put w w' g T ds):∃ ys,w'.ownsRow lo T sz u n ys:=by
 by_cases hj:u.ownBlock=some g
 ·obtain⟨h1,h2⟩:=h
  rcases h2 with⟨rfl,_⟩ | ⟨g',cap,cur,rfl,hb,hg,hn,hm,hs,ht⟩
  ·simp[Value.ownBlock]at hj
  ·simp only[Value.ownBlock,Option.some.injEq]at hj
   subst hj;unfold Zf at hW;rw[hg]at hW;injection hW with hW;injection hW with hW _;have hc:cs.length=cap*sz:=by rw[←hs,hW];rfl
   refine⟨ds.take (n*sz),?_,.inr ⟨g',cap,_,rfl,hb,p.whole,hn,hm,by simp;omega,rfl⟩⟩;rw[List.length_take];have:n*sz≤cap*sz:=Nat.mul_le_mul_right sz hn;omega
 ·exact⟨zs,p.keeps.owns h fun j hj2 e=>by subst e;exact hj hj2⟩
theorem SpA.put{lo hi:Nat}{w w':World}{u:Value}{g:Nat}{T:TypeId}{cs ds:List Value}(h:SpA lo hi w u)(hW:Zf w g T cs.toArray)(hl:ds.length=cs.length)(p:Put w w' g T ds):SpA lo hi w' u:=by
 obtain⟨n,zs,h1,h2⟩:=h;by_cases hT:T=58
 ·subst hT
  obtain⟨ys,h3⟩:=own_same h1 hW hl p;exact⟨n,ys,h3,h2⟩
 ·exact⟨n,zs,Zlq h1 hW hT p.keeps,h2⟩
theorem SpR.put{lo hi:Nat}{w w':World}{u:Value}{g:Nat}{T:TypeId}{cs ds:List Value}(h:SpR lo hi w u)(hW:Zf w g T cs.toArray)(hl:ds.length=cs.length)(p:Put w w' g T ds)(hT:T≠46):SpR lo hi w' u:=by
 obtain⟨n,zs,h1,h2,h3⟩:=h;exact⟨n,zs,Zlq h1 hW hT p.keeps,h2,fun m hm=>by obtain⟨v,hv,h4⟩:=h3 m hm;exact⟨v,hv,h4.put hW hl p⟩⟩
theorem SpC.put{lo hi:Nat}{w w':World}{u:Value}{g:Nat}{cs ds:List Value}(h:SpC lo hi w u)(hW:Zf w g 58 cs.toArray)(hl:ds.length=cs.length)(p:Put w w' g 58 ds):SpC lo hi w' u:=by
 obtain⟨n,zs,h1,h2,h3⟩:=h;exact⟨n,zs,Zlq h1 hW (by decide) p.keeps,h2,fun m hm=>by obtain⟨v,hv,h4⟩:=h3 m hm;exact⟨v,hv,h4.put hW hl p (by decide)⟩⟩
theorem own_cell{w:World}{lo sz n c g i:Nat}{T:TypeId}{zs:List Value}(h:w.ownsRow lo T sz (.slice (some ⟨g,0,none⟩) n c) n zs)(hi:i<n*sz) :
  ∃ pre old post,Zf w g T (pre++[old]++post).toArray∧pre.length=i∧∀ v w',Zf w' g T (pre++[v]++post).toArray→∃ ys,w'.ownsRow lo T sz (.slice (some ⟨g,0,none⟩) n c) n ys∧∀ p,p≠i→ys[p]?=zs[p]?:=by
 obtain⟨hl,h⟩:=h;rcases h with⟨h,_⟩ | ⟨g',cap,cur,h,hb,hw,h1,h2,h3,h4⟩
 ·cases h
 ·injection h with h5 h6 h7
  injection h5 with h5;injection h5 with h5;subst h5 h7;have hns:n*sz≤c*sz:=Nat.mul_le_mul_right sz h1;have hcl:cur.toList.length=c*sz:=by rw[Array.length_toList,h3]
  have hpl:(cur.toList.take i).length=i:=by rw[List.length_take];omega
  have hlt:i<cur.toList.length:=by omega
  refine⟨cur.toList.take i,cur.toList[i],cur.toList.drop (i+1),?_,hpl,?_⟩
  ·rw[List.append_assoc,List.singleton_append,←List.drop_eq_getElem_cons hlt,List.take_append_drop]
   exact hw
  ·intro v w' hW
   refine⟨(cur.toList.take i++[v]++cur.toList.drop (i+1)).take (n*sz),⟨?_,.inr ⟨g,c,_,rfl,hb,hW,h1,h2,?_,rfl⟩⟩,fun p hp=>?_⟩
   ·rw[List.length_take,List.length_append,List.length_append,List.length_drop,hpl];simp only[List.length_singleton];omega
   ·simp only[List.size_toArray,List.length_append,List.length_drop,hpl,List.length_singleton];omega
   ·rw[←h4,List.getElem?_take,List.getElem?_take]
    split
    ·rcases Nat.lt_or_gt_of_ne hp with hlt2 | hgt
     ·rw[List.append_assoc,List.getElem?_append_left (by omega),List.getElem?_take,if_pos hlt2]
     ·rw[List.getElem?_append_right (by rw[List.length_append,hpl];simp only[List.length_singleton];omega),List.length_append,hpl,List.getElem?_drop]
      simp only[List.length_singleton];rw[show i+1+(p - (i+1))=p from by omega]
    ·rfl
structure LzC where
 w:World
 lo:Nat
 hi:Nat
 g3:Nat
 g4:Nat
 g5:Nat
 v3:List Value
 v4:List Value
 v5:List Value
 f:Fi
 N:Nat→Prop
 uC:Value
structure LzOK(c:LzC):Prop where
 wlo:c.w.heap.size≤c.lo
 l3:c.g3<c.lo
 l4:c.g4<c.lo
 l5:c.hi≤c.g5
 n:∀ k,c.N k→k<c.lo
 v:∀ k,c.N k→Zha c.w [(c.g3,26,c.v3),(c.g4,29,c.v4)] [] k
structure Lz(c:LzC)(x:World):Prop where
 env:Env c.w [(c.g3,26,c.v3),(c.g4,29,c.v4),(c.g5,26,c.v5)] [] [] x
 tree:Zn c.N x c.f.ds c.v3
 sp:SpC c.lo c.hi x c.uC
 size:c.lo≤x.heap.size
theorem Lz.put{c:LzC}{x y:World}{g:Nat}(h:Lz c x)(ok:LzOK c)(hg:c.lo≤g∧g<c.hi)(k:Zq (fun k=>k=g) x y)(hs:SpC c.lo c.hi y c.uC):Lz c y:=by
 have a1:=ok.wlo;have a2:=ok.l3;have a3:=ok.l4;have a4:=ok.l5
 have hne:∀ b ∈ [(c.g3,26,c.v3),(c.g4,29,c.v4),(c.g5,26,c.v5)],b.1≠g:=by
  intro b hb;rcases List.mem_cons.1 hb with rfl | hb
  ·show c.g3≠g;omega
  rcases List.mem_cons.1 hb with rfl | hb
  ·show c.g4≠g;omega
  ·cases List.mem_singleton.1 hb;show c.g5≠g;omega
 refine⟨⟨fun b hb=>k.whole (h.env.at_ b hb) (hne b hb),h.env.lo,h.env.nod,(fun r hr=>by cases hr),(fun r hr=>by cases hr),h.env.rapart,(fun t ht=>by cases ht),h.env.below.trans ((k.below (B:=c.w.heap.size) h.env.below.size (fun j hj=>by omega)))⟩,h.tree.keeps k (fun j _ hj=>⟨fun e=>by have:=ok.n j hj;omega,hj⟩),hs,Nat.le_trans h.size k.size⟩
theorem own_idx{w:World}{lo sz:Nat}{T:TypeId}{u:Value}{n:Nat}{zs:List Value}(h:w.ownsRow lo T sz u n zs):∃ A c gb,u=.slice A n c∧n≤9223372036854775807∧(0<n→A=some ⟨gb,0,none⟩):=by
 obtain⟨h1,h2⟩:=id h;rcases h2 with⟨rfl,rfl⟩ | ⟨g,cap,cur,rfl,hb,hh,hn,hm,hs,ht⟩
 ·exact⟨none,0,0,rfl,by omega,fun h=>by omega⟩
 ·unfold maxLen at hm
  exact⟨_,cap,g,rfl,by omega,fun _=>rfl⟩
end Go.Proofs.YtdngkgickbaboaaGreat
