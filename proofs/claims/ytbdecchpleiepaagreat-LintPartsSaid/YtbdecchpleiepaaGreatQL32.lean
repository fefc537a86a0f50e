/- Parts of the proof. No conditions but those that each names. -/
import Derived.Test.YtbdecchpleiepaaGreatQL31
set_option maxRecDepth 20000
set_option maxHeartbeats 99000000
set_option linter.unusedVariables false
set_option linter.unusedSimpArgs false
namespace Go.Proofs.YtbdecchpleiepaaGreat
open Go.Value renaming int→I,slice→Λ,pointer→Ω,string→Ψ
open Go.IntKind renaming i64→J
open _root_.Go.Proofs.Tryz renaming prog→Φ
open Go.Ending renaming returned→η
open Go Go.RowKit Go.Lib Go.Sort
theorem ba_eq{a b:ByteArray}:a.toList=b.toList↔a=b:=by
 constructor
 ·intro h
  rw[Lib.toList_data,Lib.toList_data]at h;cases a with
  |mk x=>cases b with
   |mk y=>exact congrArg ByteArray.mk (Array.toList_inj.1 h)
 ·rintro rfl;rfl
def nF(L:List ByteArray):Nat:=(Vl (Ys L)).length
def fAt(L:List ByteArray)(t:Nat):Nat:=(Vl (Ys L)).getD t 0
structure Zmk(L:List ByteArray)(X:Nat)(w:World):Prop where
 mem:∃ A0 c0 A1 c1,w.cell? ⟨X,0,none⟩=some (Λ A0 (nF L) c0)∧w.cell? ⟨X,1,none⟩=some (Λ A1 (nF L) c1)∧Zcw w w.heap.size A0 (Vh ((Vl (Ys L)).map (nmS L)))∧Zcw w w.heap.size A1 (Wy (Vl (Ys L)))
 lt:X<w.heap.size
theorem Zmk.below{L:List ByteArray}{X:Nat}{w w':World}(h:Zmk L X w)(hb:Below w.heap.size w w'):Zmk L X w':=by
 obtain⟨A0,c0,A1,c1,h1,h2,h3,h4⟩:=h.mem;refine⟨⟨A0,c0,A1,c1,?_,?_,(h3.below hb).mono hb.size,(h4.below hb).mono hb.size⟩,Nat.lt_of_lt_of_le h.lt hb.size⟩
 ·rw[hb.cell (p:=⟨X,0,none⟩) h.lt];exact h1
 ·rw[hb.cell (p:=⟨X,1,none⟩) h.lt];exact h2
theorem Zmk.drewN{L:List ByteArray}{X:Nat}{w:World}(h:Zmk L X w)(q:Nat):Zmk L X (w.drewN q):=h.below (Zeo (Below.refl _ _) q)
theorem Zdl.idx{L:List ByteArray}{W w:World}{X:Nat}{v0 v1:Value}(h:Zdl L W X L.length v0 v1 w):Zmk L X w:=by
 obtain⟨A0,c0,e0,_,_,k0⟩:=Yx h.d;obtain⟨A1,c1,e1,_,_,k1⟩:=Yx h.i;obtain⟨x0,x1,_,_⟩:=Zhc h.x;have ea:Xj (Ys L) L.length=Vl (Ys L):=by rw[←Wr L];exact Ziy _
 unfold fK at e0 e1;unfold nmK at k0;rw[ea]at e0 e1 k0 k1;subst e0 e1;exact⟨⟨A0,c0,A1,c1,x0,x1,k0,k1⟩,h.x.inside⟩
def Made(L:List ByteArray)(w:World)(e:Ending)(w':World):Prop:=∃ X,e=η (Ω (some ⟨X,0,none⟩))∧Zmk L X w'∧Below w.heap.size w w'
theorem New_any(A:Option Addr)(cap:Nat)(L:List ByteArray)(w:World)(hr:Zbp w A (Vh L))(hmax:L.length≤1000000) :
  Calls Φ 64 #[Λ A L.length cap] w (Made L w):=
 (new_any A cap L w hr hmax).mono fun e w' ⟨X,v0,v1,W,he,hs,_,hb⟩=>⟨X,he,hs.idx,hb⟩
theorem nF_le{L:List ByteArray}(hmax:L.length≤1000000):nF L≤1000000:=by have:=firsts_le (Ys L);rw[Wr]at this;unfold nF;omega
theorem strF_get{L:List ByteArray}{t:Nat}(h:t<nF L):(Vh ((Vl (Ys L)).map (nmS L)))[t]?=some (Ψ (nmS L (fAt L t))):=by
 unfold Vh fAt;unfold nF at h;rw[List.map_map,List.getElem?_map,List.getElem?_eq_getElem h,List.getD_eq_getElem?_getD,List.getElem?_eq_getElem h];rfl
theorem natF_get{L:List ByteArray}{t:Nat}(h:t<nF L):(Wy (Vl (Ys L)))[t]?=some (I J (fAt L t:Int)):=by
 unfold Wy fAt;unfold nF at h;rw[List.getElem?_map,List.getElem?_eq_getElem h,List.getD_eq_getElem?_getD,List.getElem?_eq_getElem h];rfl
theorem strF_len(L:List ByteArray):(Vh ((Vl (Ys L)).map (nmS L))).length=nF L:=by simp[Vh,nF]
theorem natF_len(L:List ByteArray):(Wy (Vl (Ys L))).length=nF L:=by simp[Wy,nF]
theorem fAt_nm(L:List ByteArray)(t:Nat):(nmS L (fAt L t)).toList=nmF (Ys L) t:=by unfold nmF fAt;rw[Zkv]
theorem search_any(A0:Option Addr)(c0:Nat)(L:List ByteArray)(s:ByteArray)(w:World)(hmax:L.length≤1000000)(hc:Zcw w w.heap.size A0 (Vh ((Vl (Ys L)).map (nmS L)))) :
  Calls Φ 98 #[Λ A0 (nF L) c0,Ψ s] w fun e w'=>e=η (.tuple #[I J (pos (Ys L) s.toList:Nat),.bool (hit (Ys L) s.toList)])∧∃ q,w'=w.drewN q:=by
 have hF:=nF_le hmax;have hp:=pos_le (Ys L) s.toList;by_cases h0:0<nF L
 ·obtain⟨g,off,rfl,_,hcc⟩:=hc.at_ (by rw[strF_len];exact h0)
  have h:=Any2.slices_BinarySearch_string searchL g off (nF L) c0 (fun t=>if t<nF L then nmS L (fAt L t)else s) s w (by omega) (fun j hj=>by
   rw[hcc j (by rw[strF_len];exact hj),strF_get hj];simp only[hj,if_true])
  change Calls Φ 98 _ _ _ at h
  have hb:Lib.bsGo (fun t=>Op.bytesLess (if t<nF L then nmS L (fAt L t)else s).toList s.toList) (nF L) 0 (nF L)=pos (Ys L) s.toList:=by
   refine Lib.bsGo_spec _ _ ?_ ?_ _ _ _ (by omega) (by omega) hp
   ·intro t ht
    have h1:t<nF L:=by unfold nF;omega
    rw[if_pos h1,Zez,decide_eq_true_eq,fAt_nm];exact(pos_lt s.toList h1).2 ht
   ·intro t ht
    by_cases h1:t<nF L
    ·rw[if_pos h1,Zez,decide_eq_false_iff_not,fAt_nm]
     intro h2;have:=(pos_lt s.toList h1).1 h2;omega
    ·rw[if_neg h1,Zez,decide_eq_false_iff_not]
     exact Znb _
  rw[hb]at h
  have hd:decide (pos (Ys L) s.toList<nF L∧(if pos (Ys L) s.toList<nF L then nmS L (fAt L (pos (Ys L) s.toList))else s)=s)=hit (Ys L) s.toList:=by
   unfold hit;apply decide_eq_decide.2;constructor
   ·rintro⟨h1,h2⟩
    rw[if_pos h1]at h2;exact⟨h1,by rw[←fAt_nm,h2]⟩
   ·rintro⟨h1,h2⟩
    refine⟨h1,?_⟩;have h3:pos (Ys L) s.toList<nF L:=h1;rw[if_pos h3];apply ba_eq.1;rw[fAt_nm];exact h2
  rw[hd]at h;exact h
 ·have hz:nF L=0:=by omega
  have h:=Any2.slices_BinarySearch_string_empty searchL A0 c0 s w;change Calls Φ 98 _ _ _ at h
  have hp0:pos (Ys L) s.toList=0:=by have:(Vl (Ys L)).length=0:=hz;omega
  have hh0:hit (Ys L) s.toList=false:=by
   unfold hit;rw[decide_eq_false_iff_not];rintro⟨h1,_⟩;have:(Vl (Ys L)).length=0:=hz;omega
  rw[hz,hp0,hh0];exact h.mono fun e w' h=>⟨h.1,0,h.2⟩
theorem Find_any(L:List ByteArray)(X:Nat)(s:ByteArray)(w:World)(hmax:L.length≤1000000)(hi:Zmk L X w) :
  Calls Φ 65 #[Ω (some ⟨X,0,none⟩),Ψ s] w fun e w'=>e=η (I J (Zgu (Ys L) s.toList))∧∃ q,w'=w.drewN q:=by
 obtain⟨A0,c0,A1,c1,h0,h1,k0,k1⟩:=hi.mem;have hF:=nF_le hmax;have p1:=search_any A0 c0 L s w hmax k0;cases hh:hit (Ys L) s.toList with
 |false=>
  have hz:=findZ_no hh;rw[hh]at p1;generalize pos (Ys L) s.toList=t at p1;rw[hz];clear hz hh k0 k1;go_enter Tryz.func65,Tryz.ntmps65;go_wp2_with(go_at_call 98;refine p1.mono ?_;rintro e w' ⟨rfl,q,rfl⟩)
  go_ret;exact⟨rfl,_,rfl⟩
 |true=>
  have hz:=findZ_hit hh;have ht:pos (Ys L) s.toList<nF L:=by unfold hit at hh;rw[decide_eq_true_eq]at hh;exact hh.1
  have hf:=hit_find hh;obtain⟨g,off,rfl,_,hcc⟩:=k1.at_ (by rw[natF_len];omega);have hc:=hcc _ (by rw[natF_len];exact ht);rw[natF_get ht]at hc;unfold fAt at hc;rw[hf]at hc;rw[hh]at p1;generalize pos (Ys L) s.toList=t at *;rw[hz];clear hz hh k0 k1 hcc hf;go_enter Tryz.func65,Tryz.ntmps65;go_wp2_with(go_at_call 98;refine p1.mono ?_;rintro e w' ⟨rfl,q,rfl⟩)
  go_ret;exact⟨rfl,_,rfl⟩
def Zep(N:List Bs)(k:Nat):Prop:=∀ j,j<k→isF N j=true
theorem Zep.next{N:List Bs}{k:Nat}(h:Zep N k)(hk:isF N k=true):Zep N (k+1):=fun j hj=>by
 by_cases e:j=k
 ·rw[e];exact hk
 ·exact h j (by omega)
theorem reads_at{w:World}{A:Option Addr}{L:List ByteArray}(hr:Zbp w A (Vh L)){k:Nat}(hk:k<L.length):∃ x,A=some x∧x.block<w.heap.size∧w.cell? (x.add k)=some (Ψ (nmS L k)):=by
 have hl:(Vh L).length=L.length:=by unfold Vh;rw[List.length_map]
 obtain⟨x,hA,hx,hc⟩:=hr.at_ (by omega);exact⟨x,hA,hx,by rw[hc k (by omega)];exact Zmo hk⟩
theorem Twice_any(A:Option Addr)(cap:Nat)(L:List ByteArray)(w:World)(hr:Zbp w A (Vh L))(hmax:L.length≤1000000) :
  Calls Φ 47 #[Λ A L.length cap] w fun e w'=>e=η (I J (Jn (Ys L)))∧Below w.heap.size w w':=by
 have p1:=New_any A cap L w hr hmax;have p2:=fun X s w hi=>Find_any L X s w hmax hi
 obtain⟨n,hn⟩:∃ n,L.length=n:=⟨_,rfl⟩
 have HN:=Hh hn;rw[hn]at p1 hmax ⊢;have HR:=Hh hr;clear hn hr;go_enter Tryz.func47,Tryz.ntmps47;go_wp2_with(go_at_call 64;refine p1.mono ?_;rintro e w1 ⟨X,rfl,hi,hb⟩)
 have HI:=Hh hi;have HB:=Hh hb;clear hi hb p1;go_loopw [10] (fun i wr=>∃ k:Nat,k≤n∧i=I J k∧Zep (Ys L) k∧Below w1.heap.size w1 wr) (fun i _=>n - (intOf i).toNat)
 case atStart=>exact⟨0,by omega,rfl,fun j hj=>by omega,Below.refl _ _⟩
 case round=>
  obtain⟨k,hk,rfl,hf,hb⟩:=hrel;by_cases hlt:k<n
  ·have hbb:=Wg HB.out hb
   obtain⟨x,rfl,hx,hc⟩:=reads_at HR.out (show k<L.length by rw[HN.out];exact hlt);have hcr:wr.cell? (x.add k)=some (Ψ (nmS L k)):=by rw[hbb.cell (p:=x.add k) (Zht hx k)];exact hc
   have p3:=fun s=>p2 X s wr (HI.out.below hb)
   have HFF:=Hh hf;have HB2:=Hh hb;have hN:(Ys L).length=n:=by rw[Wr];exact HN.out
   have hfz:∀ b,isF (Ys L) k=b→(Zgu (Ys L) (nmS L k).toList<(k:Int)↔b=false):=fun b hb=>by rw[←Zkv];exact isF_of (by rw[hN];exact hlt) b hb
   cases hff:isF (Ys L) k with
   |true=>
    have hd:decide (Zgu (Ys L) (nmS L k).toList<(k:Int))=false:=by rw[decide_eq_false_iff_not,hfz _ hff];simp
    have p4:=p3 (nmS L k);generalize Zgu (Ys L) (nmS L k).toList=z at *;clear hf hb hbb hc hN p3 hfz;go_wp2_with(go_at_call 65;refine p4.mono ?_;rintro e w' ⟨rfl,q,rfl⟩)
    go_roundw
    case rel=>exact⟨k+1,by omega,by go_num,HFF.out.next hff,Zeo HB2.out _⟩
    case measure=>simp[intOf];omega
   |false=>
    have hd:decide (Zgu (Ys L) (nmS L k).toList<(k:Int))=true:=by rw[decide_eq_true_eq,hfz _ hff]
    have p4:=p3 (nmS L k);have ht:=twice_at (N:=Ys L) (by rw[hN];exact hlt) hff HFF.out;have HT:=Hh ht;generalize Zgu (Ys L) (nmS L k).toList=z at *;clear hf hb hbb hc hN p3 hfz ht;go_wp2_with(go_at_call 65;refine p4.mono ?_;rintro e w' ⟨rfl,q,rfl⟩)
    go_ret;exact⟨by rw[HT.out];rfl,Zeo (Wg HB.out HB2.out) _⟩
  ·obtain rfl:k=n:=by omega
   have ht:=twice_no (N:=Ys L) (by rw[Wr,HN.out];exact hf);have HT:=Hh ht;have HB2:=Hh hb;clear hf hb ht p2;go_wp2
   go_ret;exact⟨by rw[HT.out];rfl,Wg HB.out HB2.out⟩
end Go.Proofs.YtbdecchpleiepaaGreat
