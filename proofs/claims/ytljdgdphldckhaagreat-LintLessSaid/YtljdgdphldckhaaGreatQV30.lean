/-
  No conditions but those that each theorem names.
-/
import Derived.Test.YtljdgdphldckhaaGreatQV29
set_option maxRecDepth 20000
set_option maxHeartbeats 12800000
namespace Go.Proofs.YtljdgdphldckhaaGreat
open Go
set_option linter.unusedSimpArgs false
set_option linter.unusedVariables false
theorem flat_mem{α:Type}(k:α→List ByteArray):∀(l:List α)(r:α),r ∈ l→Xa (k r)≤Xa (l.flatMap k)
 |x::l,r,h=>by
  rw[List.flatMap_cons,Zr];rcases List.mem_cons.1 h with rfl | h
  ·omega
  ·have:=flat_mem k l r h;omega
theorem flat_len{α:Type}(k:α→List ByteArray)(h:∀ r,1≤Xa (k r)):∀ l:List α,l.length≤Xa (l.flatMap k)
 |[]=>Nat.zero_le _
 |x::l=>by
  have:=flat_len k h l;have:=h x;rw[List.flatMap_cons,Zr,List.length_cons];omega
theorem sum_mem{α:Type}(k:α→Nat):∀(l:List α)(r:α),r ∈ l→k r≤(l.map k).sum
 |x::l,r,h=>by
  rw[List.map_cons,List.sum_cons];rcases List.mem_cons.1 h with rfl | h
  ·omega
  ·have:=sum_mem k l r h;omega
theorem sum_len{α:Type}(k:α→Nat)(h:∀ r,1≤k r):∀ l:List α,l.length≤(l.map k).sum
 |[]=>Nat.zero_le _
 |x::l=>by
  have:=sum_len k h l;have:=h x;rw[List.map_cons,List.sum_cons,List.length_cons];omega
theorem kRu_one(r:Ru):1≤Xa (kRu r):=by
 unfold kRu;rw[Zr,Jy];omega
theorem kRu_acts(r:Ru):Xa (Uw r.acts)≤Xa (kRu r):=by
 unfold kRu;rw[Zr,Zr,Zdg];omega
theorem kBody_le(l:List Ru):Xa (l.flatMap kRu)≤Xa (kBody l):=by
 unfold kBody;rw[Zr,Zr];omega
theorem kCa_body(c:Ca):Xa (kBody c.rules)≤Xa (kCa c):=by
 unfold kCa;rw[Zr];omega
structure LessOK(f:Fi):Prop where
 nc:f.cards.length≤100000
 np:f.places.length≤100000
 nr:∀ c ∈ f.cards,c.rules.length≤100000
 z:∀ c ∈ f.cards,∀ r ∈ c.rules,acsZ r.acts<9223372036854775808
theorem less_ok{s:ByteArray}(hs:s.size≤8000){f:Fi}{F:Int×Nat×Nat}(hp:parseF 5 s=(f,F)):LessOK f:=by
 have h1:=parse_val 5 s (by omega);have h2:=parse_len 5 s (by omega);rw[hp]at h1 h2;dsimp only at h1 h2;unfold lenFi at h2;have a1:=sum_len (fun c=>Xa (kCa c)+1) (fun c=>by omega) f.cards;have a2:=sum_len (fun p=>Xa (kPl p)+1) (fun p=>by omega) f.places
 have hc:∀ c ∈ f.cards,Xa (kCa c)≤100000:=fun c hm=>by
  have:=sum_mem (fun c=>Xa (kCa c)+1) f.cards c hm;omega
 refine⟨by omega,by omega,fun c hm=>?_,fun c hm r hr=>?_⟩
 ·have b1:=flat_len kRu kRu_one c.rules
  have b2:=kBody_le c.rules;have b3:=kCa_body c;have b4:=hc c hm;omega
 ·have b1:=flat_mem kRu c.rules r hr
  have b2:=kBody_le c.rules;have b3:=kCa_body c;have b4:=hc c hm;have b5:=kRu_acts r;have b6:=Zfh r.acts 0 ((h1.1 c hm).2.2.2 r hr).2.2.2;omega
end Go.Proofs.YtljdgdphldckhaaGreat
