/-
  No conditions but those that each theorem names.
-/
import Derived.Test.YtdngkgickbaboaaGreatQS31
set_option maxRecDepth 20000
set_option maxHeartbeats 12800000
namespace Go.Proofs.YtdngkgickbaboaaGreat
open Go.Great Go.ChangeShapes Go.WideShapes Go.ChangeAt Go.RowKit
set_option linter.unusedVariables false
set_option linter.unusedSimpArgs false
def ARow(b:Nat)(w:World)(u:Value)(n:Nat):Prop:=∃ zs,w.ownsRow b 58 53 u n zs
theorem own_le{w:World}{b c:Nat}{e:TypeId}{size:Nat}{v:Value}{n:Nat}{xs:List Value}(h:w.ownsRow b e size v n xs)(hc:c≤b):w.ownsRow c e size v n xs:=by
 obtain⟨h1,h2⟩:=h;refine⟨h1,?_⟩;rcases h2 with h2 | ⟨g,cap,cur,e,hb,r⟩
 ·exact .inl h2
 ·exact .inr ⟨g,cap,cur,e,Nat.le_trans hc hb,r⟩
theorem Zkn{w w':World}{b g:Nat}{e:TypeId}{size:Nat}{v:Value}{n:Nat}{xs:List Value}(h:w.ownsRow b e size v n xs)(k:Zq (fun k=>k=g) w w')(hg:g<b):w'.ownsRow b e size v n xs:=
 k.owns h fun j hj e=>by have:=(h.lt j hj).1;omega
def DRu(r:Ru)(b:Nat)(w:World)(ys:List Value):Prop:=Vb r.bare.ds b w ys∧∃ u,ys[4]?=some u∧ARow b w u r.acts.len
theorem DRu.stb(r:Ru):Stb (DRu r) 5:=
 ⟨fun⟨h,u,h1,zs,h2⟩ hc=>⟨h.le hc,u,h1,zs,own_le h2 hc⟩,fun⟨h,u,h1,zs,h2⟩ hk hg=>⟨h.keep hk hg,u,h1,zs,Zkn h2 hk hg⟩,fun⟨h,_⟩=>Zn.len h⟩
def Zmr(b:Nat)(w:World)(u:Value)(l:List Ru):Prop:=∃ zs,w.ownsRow b 46 5 u l.length zs∧∀ m (h:m<l.length),DRu (l[m]'h) b w (elm 5 m zs)
theorem Zmr.le{b c:Nat}{w:World}{u:Value}{l:List Ru}(h:Zmr b w u l)(hc:c≤b):Zmr c w u l:=by
 obtain⟨zs,h1,h2⟩:=h;exact⟨zs,own_le h1 hc,fun m hm=>(DRu.stb _).mono (h2 m hm) hc⟩
theorem Zmr.keep{b g:Nat}{w w':World}{u:Value}{l:List Ru}(h:Zmr b w u l)(k:Zq (fun k=>k=g) w w')(hg:g<b):Zmr b w' u l:=by
 obtain⟨zs,h1,h2⟩:=h;exact⟨zs,Zkn h1 k hg,fun m hm=>(DRu.stb _).keep (h2 m hm) k hg⟩
theorem Zmr.new{b:Nat}{w:World}{u:Value}{l:List Ru}(h:Zmr b w u l):Vb (.row l.length (Ur (l.map Ru.bare)) .nil) b w [u]:=by
 obtain⟨zs,h1,h2⟩:=h;refine Zn.rowOf h1 (fun k h=>h) ?_;rw[rusDs_L];refine Zjr (sz:=5) (by rw[h1.1];simp) fun m hm=>?_
 rw[List.getElem_map,List.getElem_map];exact(h2 m (by simpa using hm)).1
def DCa(c:Ca)(b:Nat)(w:World)(ys:List Value):Prop:=Vb c.bare.ds b w ys∧∃ u,ys[5]?=some u∧Zmr b w u c.rules
theorem DCa.stb(c:Ca):Stb (DCa c) 6:=
 ⟨fun⟨h,u,h1,h2⟩ hc=>⟨h.le hc,u,h1,h2.le hc⟩,fun⟨h,u,h1,h2⟩ hk hg=>⟨h.keep hk hg,u,h1,h2.keep hk hg⟩,fun⟨h,_⟩=>Zn.len h⟩
theorem oldRow{y x:World}{g B n:Nat}{ds:Ds}{v:Value}(h:Zn (fun k=>k<B) y (.row n ds .nil) [v])(hB:B≤g)(hx:Zq (fun k=>k=g) y x):Zn (fun k=>k<B) x (.row n ds .nil) [v]:=
 Zn.keeps (M:=fun k=>k<B) hx (fun k _ hk=>⟨fun e=>by have:k<B:=hk;omega,hk⟩) h
theorem chgO_Ac(w:World)(N:Nat→Prop)(v:Value)(x:Acs)(hs:Zmp x)(hn:x.len≤1000000)(hd:Zn N w (.row x.len x.ds .nil) [v]) :
  Calls Tryz.prog 91 #[v,.func (.func 92) #[] #[]] w fun e w'=>∃ v',e=.returned v'∧v'.oneCell'=true∧Vb (.row x.len x.bare.ds .nil) w.heap.size w' [v']∧ARow w.heap.size w' v' x.len∧Below w.heap.size w w':=by
 obtain⟨E,hE,hE2⟩:∃ E:Nat→Ds,(∀ m (h:m<x.bare.each.length),x.bare.each[m]'h=E m)∧∀ m,(E m).len=53:=⟨fun m=>x.bare.each.getD m ((AH.zero 0 0 0).dsr 0 .nil 0 .nil),fun m h=>by simp[List.getD,h],fun m=>by
  by_cases h:m<x.bare.each.length
  ·simp only[List.getD,List.getElem?_eq_getElem h,Option.getD_some];exact Acs.each_size _ _ (List.getElem_mem h)
  ·have e:x.bare.each[m]?=none:=List.getElem?_eq_none (by omega)
   simp only[List.getD,e,Option.getD_none];exact AH.dsr_len ..⟩
 have hbl:x.bare.each.length=x.each.length:=by rw[Acs.each_len,Acs.each_len,Acs.bare_len]
 have h:=chg_Ac w N v x.each (fun m=>Vb (E m)) (Acs.each_size x) (by rw[Acs.each_len];exact hn) (by rw[Acs.each_len,←Zis];exact hd) (fun j=>Vb.stb _ (hE2 j)) (fun m h=>by have:=Zgj x hs m h (by omega);rw[hE m (by omega)]at this;exact this);rw[Acs.each_len]at h;refine h.mono ?_;rintro e w' ⟨v',zs,rfl,ho,hD,hb⟩;refine⟨v',rfl,Zde ho,Zn.rowOf ho (fun k h=>h) ?_,⟨zs,ho⟩,hb⟩;rw[Zis];refine Zjr (sz:=53) (by rw[ho.1,hbl,Acs.each_len]) fun m h=>?_
 rw[hE m h];exact hD m (by rw[Acs.each_len,Acs.bare_len]at h;exact h)
theorem stripRule_ok(r:Ru)(hn:r.acts.len≤1000000)(hs:Zmp r.acts):Chg 66 r.ds (DRu r):=by
 intro y B g o t pre post ys ho hB hW hd;obtain⟨wh,st,ln,cl,acts⟩:=r;obtain⟨_,rfl,_,rfl,_,rfl,_,rfl,A,c,xs,_,rfl,hl,hw,hx,rfl⟩:=hd;dsimp only at hn hs hW;have hkv:Zn (fun k=>k<B) y (.row acts.len acts.ds .nil) [.slice A acts.len c]:=⟨A,c,xs,[],rfl,hl,hw,hx,rfl⟩
 obtain⟨kv,ekv⟩:∃ v,v=Value.slice A acts.len c:=⟨_,rfl⟩
 rw[←ekv]at hW hkv;have hg:g<y.heap.size:=hW.inside;have T0:Hid (InP y g t pre post ([.int .i64 wh,.int .i64 st]++[.int .i64 ln]++[.int .i64 cl,kv]) y):=Hh ⟨by simpa using hW,Zq.refl _ _⟩;have HO:=Hh ho;have HC:=Hh (fun(x:World)(hx:Zq (fun k=>k=g) y x)=>chgO_Ac x _ kv acts hs hn (oldRow hkv hB hx));clear hW hw hx ho ekv hkv;go_enter Tryz.func66,Tryz.ntmps66;go_wp2_with(first
 |((with_reducible refine Zjc 5 ?_);refine Wz T0.out 3 _ _ (.int .i64 0) o 2 HO.out rfl Yb rfl rfl rfl rfl rfl rfl ?_;intro w1 t1 k1;have T1:Hid (InP y g t pre post ([.int .i64 wh,.int .i64 st,.int .i64 0]++[.int .i64 cl]++[kv]) w1):=Hh (t1.cast (by simp));clear t1 k1)
 |((with_reducible refine Zjc 7 ?_);refine Wz T1.out 3 _ _ (.int .i64 0) o 3 HO.out rfl Yb rfl rfl rfl rfl rfl rfl ?_;intro w2 t2 k2;have T2:Hid (InP y g t pre post ([.int .i64 wh,.int .i64 st,.int .i64 0,.int .i64 0]++[kv]++[]) w2):=Hh (t2.cast (by simp));have c2:=T2.out.at HO.out (k:=4) rfl;clear t2 k2)
 |(go_at_call 91;refine(HC.out _ T2.out.keep).mono ?_;rintro e w3 ⟨v3,rfl,o3,d3,a3,b3⟩;have T3:=Hh (T2.out.below b3);have O3:=Hh o3;have D3:=Hh (d3.le T2.out.keep.size);obtain⟨z3,a3⟩:=a3;have A3:=Hh (own_le a3 T2.out.keep.size);clear d3 o3 a3)
 |((with_reducible refine Zg 15 13 ?_);refine Wz T3.out 44 _ _ v3 o 4 HO.out rfl Zle O3.out rfl rfl rfl rfl rfl ?_;intro w4 t4 k4;have T4:=Hh t4;have D3:=Hh (D3.out.keep k4 hg);have A3:=Hh (Zkn A3.out k4 hg);clear t4 k4))
 go_end0
 refine⟨rfl,_,?_,T4.out.whole,T4.out.keep⟩;refine⟨?_,v3,rfl,z3,A3.out⟩;have h3:=D3.out;rw[←Acs.bare_len]at h3;exact⟨_,rfl,_,rfl,_,rfl,_,rfl,h3⟩
theorem chgR(w:World)(N:Nat→Prop)(v:Value)(l:List Ru)(hs:Zmo l)(hd:Zn N w (.row l.length (Ur l) .nil) [v]) :
  Calls Tryz.prog 65 #[v,.func (.func 66) #[] #[]] w fun e w'=>∃ v',e=.returned v'∧v'.oneCell'=true∧Zmr w.heap.size w' v' l∧Below w.heap.size w w':=by
 obtain⟨E,hE⟩:∃ E:Nat→Ru,∀ m (h:m<l.length),l[m]'h=E m:=⟨fun m=>l.getD m ⟨0,0,0,0,.nil⟩,fun m h=>by simp[List.getD,h]⟩
 have h:=chg_Ru w N v (l.map Ru.ds) (fun m=>DRu (E m)) (fun d hd=>by obtain⟨r,_,rfl⟩:=List.mem_map.1 hd;rfl) (by rw[List.length_map];exact hs.1) (by rw[List.length_map,←rusDs_L];exact hd) (fun j=>DRu.stb _) (fun m h=>by
  have hm:m<l.length:=by simpa using h
  have:=stripRule_ok (l[m]'hm) (hs.2 _ (List.getElem_mem hm)).1 (hs.2 _ (List.getElem_mem hm)).2;rw[List.getElem_map,←hE m hm];exact this)
 rw[List.length_map]at h;refine h.mono ?_;rintro e w' ⟨v',zs,rfl,ho,hD,hb⟩;exact⟨v',rfl,Zde ho,⟨zs,ho,fun m h=>by rw[hE m h];exact hD m h⟩,hb⟩
theorem stripCard_ok(c:Ca)(hs:Zmo c.rules):Chg 36 c.ds (DCa c):=by
 intro y B g o t pre post ys ho hB hW hd;obtain⟨nm,cost,pw,ln,cl,rules⟩:=c;obtain⟨_,rfl,_,rfl,_,rfl,_,rfl,_,rfl,A,c,xs,_,rfl,hl,hw,hx,rfl⟩:=hd;dsimp only at hs hW;have hkv:Zn (fun k=>k<B) y (.row rules.length (Ur rules) .nil) [.slice A rules.length c]:=⟨A,c,xs,[],rfl,hl,hw,hx,rfl⟩
 obtain⟨kv,ekv⟩:∃ v,v=Value.slice A rules.length c:=⟨_,rfl⟩
 rw[←ekv]at hW hkv;have hg:g<y.heap.size:=hW.inside;have T0:Hid (InP y g t pre post ([.string nm,.int .i64 cost,.int .i64 pw]++[.int .i64 ln]++[.int .i64 cl,kv]) y):=Hh ⟨by simpa using hW,Zq.refl _ _⟩;have HO:=Hh ho;have HC:=Hh (fun(x:World)(hx:Zq (fun k=>k=g) y x)=>chgR x _ kv rules hs (oldRow hkv hB hx));clear hW hw hx ho ekv hkv;go_enter Tryz.func36,Tryz.ntmps36;go_wp2_with(first
 |((with_reducible refine Zjc 5 ?_);refine Wz T0.out 3 _ _ (.int .i64 0) o 3 HO.out rfl Yb rfl rfl rfl rfl rfl rfl ?_;intro w1 t1 k1;have T1:Hid (InP y g t pre post (([.string nm,.int .i64 cost,.int .i64 pw]++[.int .i64 0])++[.int .i64 cl]++[kv]) w1):=Hh (t1.cast (by simp));clear t1 k1)
 |((with_reducible refine Zjc 7 ?_);refine Wz T1.out 3 _ _ (.int .i64 0) o 4 HO.out rfl Yb rfl rfl rfl rfl rfl rfl ?_;intro w2 t2 k2;have T2:Hid (InP y g t pre post (([.string nm,.int .i64 cost,.int .i64 pw]++[.int .i64 0,.int .i64 0])++[kv]++[]) w2):=Hh (t2.cast (by simp));have c2:=T2.out.at HO.out (k:=5) rfl;clear t2 k2)
 |(go_at_call 65;refine(HC.out _ T2.out.keep).mono ?_;rintro e w3 ⟨v3,rfl,o3,r3,b3⟩;have T3:=Hh (T2.out.below b3);have O3:=Hh o3;have R3:=Hh (r3.le T2.out.keep.size);clear r3 o3)
 |((with_reducible refine Zg 15 13 ?_);refine Wz T3.out 33 _ _ v3 o 5 HO.out rfl size_rusZ O3.out rfl rfl rfl rfl rfl ?_;intro w4 t4 k4;have T4:=Hh t4;have R3:=Hh (R3.out.keep k4 hg);clear t4 k4))
 go_end0
 refine⟨rfl,_,?_,T4.out.whole,T4.out.keep⟩;have h3:=R3.out.new;rw[show rules.length=(rules.map Ru.bare).length from by simp]at h3;exact⟨⟨_,rfl,_,rfl,_,rfl,_,rfl,_,rfl,h3⟩,v3,rfl,R3.out⟩
theorem stripPlace_ok(c:Pl)(hs:Zmo c.rules):Chg 38 c.ds (Vb c.bare.ds):=by
 intro y B g o t pre post ys ho hB hW hd;obtain⟨nm,ln,cl,rules⟩:=c;obtain⟨_,rfl,_,rfl,_,rfl,A,c,xs,_,rfl,hl,hw,hx,rfl⟩:=hd;dsimp only at hs hW;have hkv:Zn (fun k=>k<B) y (.row rules.length (Ur rules) .nil) [.slice A rules.length c]:=⟨A,c,xs,[],rfl,hl,hw,hx,rfl⟩
 obtain⟨kv,ekv⟩:∃ v,v=Value.slice A rules.length c:=⟨_,rfl⟩
 rw[←ekv]at hW hkv;have hg:g<y.heap.size:=hW.inside;have T0:Hid (InP y g t pre post ([.string nm]++[.int .i64 ln]++[.int .i64 cl,kv]) y):=Hh ⟨by simpa using hW,Zq.refl _ _⟩;have HO:=Hh ho;have HC:=Hh (fun(x:World)(hx:Zq (fun k=>k=g) y x)=>chgR x _ kv rules hs (oldRow hkv hB hx));clear hW hw hx ho ekv hkv;go_enter Tryz.func38,Tryz.ntmps38;go_wp2_with(first
 |((with_reducible refine Zjc 5 ?_);refine Wz T0.out 3 _ _ (.int .i64 0) o 1 HO.out rfl Yb rfl rfl rfl rfl rfl rfl ?_;intro w1 t1 k1;have T1:Hid (InP y g t pre post (([.string nm]++[.int .i64 0])++[.int .i64 cl]++[kv]) w1):=Hh (t1.cast (by simp));clear t1 k1)
 |((with_reducible refine Zjc 7 ?_);refine Wz T1.out 3 _ _ (.int .i64 0) o 2 HO.out rfl Yb rfl rfl rfl rfl rfl rfl ?_;intro w2 t2 k2;have T2:Hid (InP y g t pre post (([.string nm]++[.int .i64 0,.int .i64 0])++[kv]++[]) w2):=Hh (t2.cast (by simp));have c2:=T2.out.at HO.out (k:=3) rfl;clear t2 k2)
 |(go_at_call 65;refine(HC.out _ T2.out.keep).mono ?_;rintro e w3 ⟨v3,rfl,o3,r3,b3⟩;have T3:=Hh (T2.out.below b3);have O3:=Hh o3;have R3:=Hh (r3.le T2.out.keep.size);clear r3 o3)
 |((with_reducible refine Zg 15 13 ?_);refine Wz T3.out 33 _ _ v3 o 3 HO.out rfl size_rusZ O3.out rfl rfl rfl rfl rfl ?_;intro w4 t4 k4;have T4:=Hh t4;have R3:=Hh (R3.out.keep k4 hg);clear t4 k4))
 go_end0
 refine⟨rfl,_,?_,T4.out.whole,T4.out.keep⟩;have h3:=R3.out.new;rw[show rules.length=(rules.map Ru.bare).length from by simp]at h3;exact⟨_,rfl,_,rfl,_,rfl,h3⟩
end Go.Proofs.YtdngkgickbaboaaGreat
