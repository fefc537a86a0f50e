/-
  No conditions but those that each theorem names.
-/
import Derived.Test.YtdngkgickbaboaaGreatQS29
set_option maxRecDepth 20000
set_option maxHeartbeats 12800000
namespace Go.Proofs.YtdngkgickbaboaaGreat
open Go.Great Go.ChangeShapes Go.WideShapes Go.ChangeAt Go.RowKit
set_option linter.unusedVariables false
set_option linter.unusedSimpArgs false
theorem InP.at{y x:World}{g:Nat}{t:TypeId}{pre post l r:List Value}{u:Value}(h:InP y g t pre post (l++[u]++r) x){o k:Nat}(ho:o=pre.length)(hk:k=l.length):x.cell? ⟨g,o+k,none⟩=some u:=
 h.cell ho k (by subst hk;simp)
theorem chgN_Ex(w:World)(N:Nat→Prop)(v:Value)(L L':List Ds)(hL:L'.length=L.length)(hl:∀ d ∈ L,d.len=12)(hl':∀ d ∈ L',d.len=12)(hn:L.length≤1000000)(hd:Zn N w (.row L.length (dsL L) .nil) [v])
  (hc:∀ m (h:m<L.length) (h':m<L'.length),Chg 124 (L[m]'h) (Vb (L'[m]'h'))) :
  Calls Tryz.prog 155 #[v,.func (.func 124) #[] #[]] w fun e w'=>∃ v',e=.returned v'∧v'.oneCell'=true∧Vb (.row L.length (dsL L') .nil) w.heap.size w' [v']∧Below w.heap.size w w':=by
 obtain⟨E,hE,hE2⟩:∃ E:Nat→Ds,(∀ m (h:m<L'.length),L'[m]'h=E m)∧∀ m,(E m).len=12:=⟨fun m=>L'.getD m (zEx.ds),fun m h=>by simp[List.getD,h],fun m=>by
  by_cases h:m<L'.length
  ·simp only[List.getD,List.getElem?_eq_getElem h,Option.getD_some];exact hl' _ (List.getElem_mem h)
  ·have e:L'[m]?=none:=List.getElem?_eq_none (by omega)
   simp only[List.getD,e,Option.getD_none];exact Ex.ds_len _⟩
 refine(chg_Ex w N v L (fun m=>Vb (E m)) hl hn hd (fun j=>Vb.stb _ (hE2 j)) (fun m h=>by have:=hc m h (by omega);rw[hE m (by omega)]at this;exact this)).mono ?_;rintro e w' ⟨v',zs,rfl,ho,hD,hb⟩;refine⟨v',rfl,Zde ho,Zn.rowOf ho (fun k h=>h) (Zjr (sz:=12) (by rw[ho.1,hL]) fun m h=>?_),hb⟩;rw[hE m h];exact hD m (by omega)
theorem chgN_Ac(w:World)(N:Nat→Prop)(v:Value)(L L':List Ds)(hL:L'.length=L.length)(hl:∀ d ∈ L,d.len=53)(hl':∀ d ∈ L',d.len=53)(hn:L.length≤1000000)(hd:Zn N w (.row L.length (dsL L) .nil) [v])
  (hc:∀ m (h:m<L.length) (h':m<L'.length),Chg 92 (L[m]'h) (Vb (L'[m]'h'))) :
  Calls Tryz.prog 91 #[v,.func (.func 92) #[] #[]] w fun e w'=>∃ v',e=.returned v'∧v'.oneCell'=true∧Vb (.row L.length (dsL L') .nil) w.heap.size w' [v']∧Below w.heap.size w w':=by
 obtain⟨E,hE,hE2⟩:∃ E:Nat→Ds,(∀ m (h:m<L'.length),L'[m]'h=E m)∧∀ m,(E m).len=53:=⟨fun m=>L'.getD m ((AH.zero 0 0 0).dsr 0 .nil 0 .nil),fun m h=>by simp[List.getD,h],fun m=>by
  by_cases h:m<L'.length
  ·simp only[List.getD,List.getElem?_eq_getElem h,Option.getD_some];exact hl' _ (List.getElem_mem h)
  ·have e:L'[m]?=none:=List.getElem?_eq_none (by omega)
   simp only[List.getD,e,Option.getD_none];exact AH.dsr_len ..⟩
 refine(chg_Ac w N v L (fun m=>Vb (E m)) hl hn hd (fun j=>Vb.stb _ (hE2 j)) (fun m h=>by have:=hc m h (by omega);rw[hE m (by omega)]at this;exact this)).mono ?_;rintro e w' ⟨v',zs,rfl,ho,hD,hb⟩;refine⟨v',rfl,Zde ho,Zn.rowOf ho (fun k h=>h) (Zjr (sz:=53) (by rw[ho.1,hL]) fun m h=>?_),hb⟩;rw[hE m h];exact hD m (by omega)
theorem detEx_raw(a b:Int)(S:Se)(sd tk tl:Int)(K:List Ds)(hS:SmSe S)(hK:K.length≤1000000)(hl:∀ d ∈ K,d.len=12)(hc:∀ m (h:m<K.length),Chg 124 (K[m]'h) (Vb (K[m]'h))) :
  Chg 124 (.int a (.int b (S.ds.app (.int sd (.int tk (.int tl (.row K.length (dsL K) .nil))))))) (Vb (.int a (.int b (S.ds.app (.int sd (.int tk (.int tl (.row K.length (dsL K) .nil)))))))):=by
 intro y B g o t pre post ys ho hB hW hd;obtain⟨_,rfl,_,rfl,hd⟩:=hd;obtain⟨sel,_,rfl,hsel,_,rfl,_,rfl,_,rfl,A,c,xs,_,rfl,hn,hw,hx,rfl⟩:=Zn.split (x:=S.ds) hd;have hkv:Zn (fun k=>k<B) y (.row K.length (dsL K) .nil) [.slice A K.length c]:=⟨A,c,xs,[],rfl,hn,hw,hx,rfl⟩
 have hg:g<y.heap.size:=hW.inside;obtain⟨kv,ekv⟩:∃ v,v=Value.slice A K.length c:=⟨_,rfl⟩
 rw[←ekv]at hW hkv;have T0:Hid (InP y g t pre post ([.int .i64 a,.int .i64 b]++sel++[.int .i64 sd,.int .i64 tk,.int .i64 tl,kv]) y):=Hh ⟨by simpa using hW,Zq.refl _ _⟩;have hcall:=Hh (T0.out.step (detSel S hS) (o:=o+2) (by rw[ho];rfl) hB hsel);have HO:=Hh ho;have HKV:=Hh hkv;have hC:=Hh (fun(x:World)(hx:Zq (fun k=>k=g) y x)=>chgN_Ex x _ kv K K rfl hl hl hK (Zn.keeps hx (fun k _ hk=>⟨fun e=>by have:k<B:=hk;omega,hk⟩) hkv) fun m h _=>hc m h);clear hd hW hw hx hsel ho ekv hc hl hK hkv;go_enter Tryz.func124,Tryz.ntmps124;go_wp2_with(first
 |(go_at_call 123;refine(hcall.out).mono ?_;rintro e w1 ⟨rfl,s',d1,t1,k1⟩;have T1:Hid (InP y g t pre post (([.int .i64 a,.int .i64 b]++s'++[.int .i64 sd,.int .i64 tk,.int .i64 tl])++[kv]++[]) w1):=Hh (t1.cast (by simp));have l1:=d1.len;have c0:=T1.out.at HO.out (k:=11) (by rw[Se.ds_len]at l1;simp[l1]);have D1:=Hh d1;clear d1 t1 k1)
 |(go_at_call 155;refine(hC.out _ T1.out.keep).mono ?_;rintro e w2 ⟨v,rfl,ov,d2,b2⟩;have T2:=Hh (T1.out.below b2);have D2:=Hh d2;have OV:=Hh ov;clear d2 ov)
 |((with_reducible refine Zg 13 11 ?_);refine Wz T2.out 52 _ _ v o 11 HO.out (by rw[Se.ds_len]at l1;simp[l1]) size_exsZ OV.out rfl rfl rfl rfl rfl ?_;intro w3 t3 k3;have T3:=Hh t3;clear t3))
 go_end0
 refine⟨rfl,_,?_,T3.out.whole,T3.out.keep⟩;have h1:Vb S.ds y.heap.size w3 s':=Vb.keep (Zn.below D1.out b2) k3 hg;have h2:Vb (.row K.length (dsL K) .nil) y.heap.size w3 [v]:=Vb.keep (Vb.le D2.out T1.out.keep.size) k3 hg;rw[show [Value.int .i64 a,.int .i64 b]++s'++[.int .i64 sd,.int .i64 tk,.int .i64 tl]++[v]++[]=.int .i64 a::.int .i64 b::(s'++(.int .i64 sd::.int .i64 tk::.int .i64 tl::[v]))from by simp];have h3:Vb (.int sd (.int tk (.int tl (.row K.length (dsL K) .nil)))) y.heap.size w3 (.int .i64 sd::.int .i64 tk::.int .i64 tl::[v]):=⟨_,rfl,_,rfl,_,rfl,h2⟩
 exact⟨_,rfl,_,rfl,Zn.app (x:=S.ds) h3 h1⟩
theorem detEx:∀ x:Ex,SmEx x→Chg 124 x.ds (Vb x.ds)
 |.leaf k n s sd tk tl,h=>detEx_raw k n s sd tk tl [] h (by simp) (by simp) (fun m h=>by cases h)
 |.bin op l r,h=>by
  have e:(Ex.bin op l r).ds=.int 7 (.int op (zSe.ds.app (.int 0 (.int 0 (.int 0 (.row [l.ds,r.ds].length (dsL [l.ds,r.ds]) .nil)))))):=by
   show Ds.int 7 (.int op (zSe.ds.app (.int 0 (.int 0 (.int 0 (.row 2 (l.ds.app r.ds) .nil))))))=.int 7 (.int op (zSe.ds.app (.int 0 (.int 0 (.int 0 (.row 2 (l.ds.app (r.ds.app .nil)) .nil))))));rw[Ds.app_nil]
  have h1:=detEx l h.1;have h2:=detEx r h.2;rw[e];refine detEx_raw 7 op zSe 0 0 0 [l.ds,r.ds] Zen (by simp) (fun d hd=>?_) (fun m hm=>?_)
  ·rcases List.mem_cons.1 hd with rfl | hd
   ·exact Ex.ds_len _
   ·cases List.mem_singleton.1 hd;exact Ex.ds_len _
  ·match m,hm with
   |0,_=>exact h1
   |1,_=>exact h2
end Go.Proofs.YtdngkgickbaboaaGreat
