/- Parts of the proof. No conditions but those that each names. -/
import Derived.Deep.AppendLies
import Derived.Deep.RegionLaw
import Derived.Test.YtbdecchpleiepaaGreatQL29
set_option maxRecDepth 20000
set_option maxHeartbeats 99000000
set_option linter.unusedVariables false
set_option linter.unusedSimpArgs false
namespace Go.Proofs.YtbdecchpleiepaaGreat
open Go.Value renaming int→I,slice→Λ,pointer→Ω,string→Ψ,oneCell'→Γ
open Go.IntKind renaming i64→J
open _root_.Go.Proofs.Tryz renaming prog→Φ
open Nat renaming le_refl→Θ
open Go.Ending renaming returned→η
open Go Go.RowKit Go.Lib Go.Sort
def nmK(L:List ByteArray)(k:Nat):List ByteArray:=(Xj (Ys L) k).map (nmS L)
def fK(L:List ByteArray)(k:Nat):Nat:=(Xj (Ys L) k).length
structure Zdl(L:List ByteArray)(W:World)(X k:Nat)(v0 v1:Value)(wr:World):Prop where
 x:Zi wr X 162 #[v0,v1]
 d:wr.ownsRow W.heap.size 9 1 v0 (fK L k) (Vh (nmK L k))
 i:wr.ownsRow W.heap.size 3 1 v1 (fK L k) (Wy (Xj (Ys L) k))
 ap:Zdr v0 v1
 kp:Zy (fun b=>b=X∨W.heap.size≤b) W wr
theorem Zdl.start{L:List ByteArray}{W:World}{X:Nat}(h:Zi W X 162 #[Λ none 0 0,Λ none 0 0]):Zdl L W X 0 (Λ none 0 0) (Λ none 0 0) W:=
 ⟨h,World.ownsRow_nil _ _ _ _,World.ownsRow_nil _ _ _ _,Zdr.nil _,Zy.refl _ _⟩
theorem Zdl.drew{L:List ByteArray}{W wr:World}{X k:Nat}{v0 v1:Value}(h:Zdl L W X k v0 v1 wr):Zdl L W X k v0 v1 wr.drew:=
 ⟨h.x,h.d.drew,h.i.drew,h.ap,h.kp.drew⟩
theorem Zdl.drewN{L:List ByteArray}{W wr:World}{X k:Nat}{v0 v1:Value}(h:Zdl L W X k v0 v1 wr)(q:Nat):Zdl L W X k v0 v1 (wr.drewN q):=
 ⟨h.x,h.d,h.i,h.ap,⟨h.kp.os,h.kp.tape,h.kp.output,h.kp.size,h.kp.block⟩⟩
theorem Zdl.no{L:List ByteArray}{W wr:World}{X k:Nat}{v0 v1:Value}(h:Zdl L W X k v0 v1 wr)(hk:k<L.length)(hf:isF (Ys L) (Vz (Ys L) k)=false):Zdl L W X (k+1) v0 v1 wr:=by
 have e:=firstsK_no (N:=Ys L) (by rw[Wr];exact hk) hf;refine⟨h.x,?_,?_,h.ap,h.kp⟩
 ·unfold fK nmK;rw[e];exact h.d
 ·unfold fK;rw[e];exact h.i
structure NewMid(L:List ByteArray)(W:World)(X k:Nat)(v0 v1:Value)(wr:World):Prop where
 x:Zi wr X 162 #[v0,v1]
 d:wr.ownsRow W.heap.size 9 1 v0 (fK L k+1) (Vh (nmK L (k+1)))
 i:wr.ownsRow W.heap.size 3 1 v1 (fK L k) (Wy (Xj (Ys L) k))
 ap:Zdr v0 v1
 kp:Zy (fun b=>b=X∨W.heap.size≤b) W wr
theorem nmK_yes{L:List ByteArray}{k:Nat}(hk:k<L.length)(hf:isF (Ys L) (Vz (Ys L) k)=true) :
  fK L (k+1)=fK L k+1∧Vh (nmK L (k+1))=Vh (nmK L k)++[Ψ (nmS L (Vz (Ys L) k))]∧Wy (Xj (Ys L) (k+1))=Wy (Xj (Ys L) k)++[I J (Vz (Ys L) k:Int)]:=by
 have e:=firstsK_yes (N:=Ys L) (by rw[Wr];exact hk) hf;unfold fK nmK Vh Wy;rw[e];simp
theorem Zdl.mid{L:List ByteArray}{W wr w3 Y:World}{X k gg cap1:Nat}{v0 v1:Value}{o:Obj}{a:ByteArray}(h:Zdl L W X k v0 v1 wr)(hX:X<W.heap.size)(hk:k<L.length)
  (hf:isF (Ys L) (Vz (Ys L) k)=true)(ha:nmS L (Vz (Ys L) k)=a)(hgrow:Y.grownBy w3 v0.ownBlock)
  (hown:w3.ownsRow W.heap.size 9 1 (Λ (some ⟨gg,0,none⟩) (fK L k+1) cap1) (fK L k+1) (Vh (nmK L k)++[Ψ a]))(hat:v0.ownBlock=some gg∨gg=wr.heap.size+1)(l:Zdm Y wr o) :
  NewMid L W X k (Λ (some ⟨gg,0,none⟩) (fK L k+1) cap1) v1 (w3.setCell ⟨X,0,none⟩ (Λ (some ⟨gg,0,none⟩) (fK L k+1) cap1)):=by
 subst ha;obtain⟨e1,e2,e3⟩:=nmK_yes hk hf;have hWr:=h.kp.size;have hgg:W.heap.size≤gg:=(hown.lt gg rfl).1;have hv0:∀ b,v0.ownBlock=some b→W.heap.size≤b:=fun b hb=>(h.d.lt b hb).1
 have hv1:∀ b,v1.ownBlock=some b→W.heap.size≤b:=fun b hb=>(h.i.lt b hb).1
 have hx0:=l.whole h.x;have hi0:=l.own h.i;refine⟨?_,?_,?_,?_,?_⟩
 ·have:=(Zad hgrow hx0 (fun c=>by have:=hv0 X c;omega)).write 0 (Λ (some ⟨gg,0,none⟩) (fK L k+1) cap1)
  exact this
 ·rw[e2]
  exact Jo hown (by simp[Value.ownBlock];omega) _
 ·exact Jo (h.ap.symm.kept hi0 hgrow) (fun c=>by have:=hv1 X c;omega) _
 ·intro b hb hb2
  simp only[Value.ownBlock,Option.some.injEq]at hb;subst hb;rcases hat with c | c
  ·exact h.ap _ c hb2
  ·have:=(h.i.lt _ hb2).2;omega
 ·refine Zy.setCell ?_ (.inl rfl) _
  exact Zy.grown (l.keeps h.kp) hgrow fun b hb=>.inr (hv0 b hb)
theorem NewMid.done{L:List ByteArray}{W wr w3 Y:World}{X k gg cap1:Nat}{v0 v1:Value}{o:Obj}{a:Nat}(h:NewMid L W X k v0 v1 wr)(hX:X<W.heap.size)(hk:k<L.length)
  (hf:isF (Ys L) (Vz (Ys L) k)=true)(ha:Vz (Ys L) k=a)(hgrow:Y.grownBy w3 v1.ownBlock)
  (hown:w3.ownsRow W.heap.size 3 1 (Λ (some ⟨gg,0,none⟩) (fK L k+1) cap1) (fK L k+1) (Wy (Xj (Ys L) k)++[I J (a:Int)]))(hat:v1.ownBlock=some gg∨gg=wr.heap.size+1)(l:Zdm Y wr o) :
  Zdl L W X (k+1) v0 (Λ (some ⟨gg,0,none⟩) (fK L k+1) cap1) (w3.setCell ⟨X,1,none⟩ (Λ (some ⟨gg,0,none⟩) (fK L k+1) cap1)):=by
 subst ha;obtain⟨e1,e2,e3⟩:=nmK_yes hk hf;have hWr:=h.kp.size;have hgg:W.heap.size≤gg:=(hown.lt gg rfl).1;have hv0:∀ b,v0.ownBlock=some b→W.heap.size≤b:=fun b hb=>(h.d.lt b hb).1
 have hv1:∀ b,v1.ownBlock=some b→W.heap.size≤b:=fun b hb=>(h.i.lt b hb).1
 have hx0:=l.whole h.x;have hi0:=l.own h.d;refine⟨?_,?_,?_,?_,?_⟩
 ·have:=(Zad hgrow hx0 (fun c=>by have:=hv1 X c;omega)).write 1 (Λ (some ⟨gg,0,none⟩) (fK L k+1) cap1)
  exact this
 ·rw[e1]
  exact Jo (h.ap.kept hi0 hgrow) (fun c=>by have:=hv0 X c;omega) _
 ·rw[e1,e3]
  exact Jo hown (by simp[Value.ownBlock];omega) _
 ·intro b hb hb2
  simp only[Value.ownBlock,Option.some.injEq]at hb2;subst hb2;rcases hat with c | c
  ·exact h.ap _ hb c
  ·have:=(h.d.lt _ hb).2;omega
 ·refine Zy.setCell ?_ (.inl rfl) _
  exact Zy.grown (l.keeps h.kp) hgrow fun b hb=>.inr (hv1 b hb)
theorem fK_le(L:List ByteArray)(k:Nat):fK L k≤k:=firstsK_le _ _
theorem strInfo:(Tryz.prog.info? 9).map (fun i=>(i.zero,i.size,i.bytes))=some (some (Ψ ⟨#[]⟩),1,16):=by kernel_rfl
theorem intInfo:(Tryz.prog.info? 3).map (fun i=>(i.zero,i.size,i.bytes))=some (some (I J 0),1,8):=by kernel_rfl
theorem Zy.cell{S:Nat→Prop}{a b:World}(h:Zy S a b){p:Addr}(hp:p.block<a.heap.size)(hn:¬ S p.block):b.cell? p=a.cell? p:=World.cell?_of_block (h.block _ hp hn)
theorem nmK_len(L:List ByteArray)(k:Nat):(Vh (nmK L k)).length=fK L k:=by simp[Vh,nmK,fK]
theorem nmK_last{L:List ByteArray}{k m:Nat}(h:fK L k=m+1):(Vh (nmK L k))[m]?=some (Ψ (nmS L (Ziu (Ys L) k))):=by
 unfold fK at h;have hm:m<(Xj (Ys L) k).length:=by omega
 unfold Vh nmK Ziu;rw[List.map_map,List.getElem?_map,List.getElem?_eq_getElem hm,h,Nat.add_sub_cancel,List.getD_eq_getElem?_getD,List.getElem?_eq_getElem hm];rfl
theorem step_yes0{L:List ByteArray}{k:Nat}(hk:k<L.length)(h:fK L k=0):isF (Ys L) (Vz (Ys L) k)=true:=
 (isF_step (by rw[Wr];exact hk)).2 (.inl (List.eq_nil_of_length_eq_zero h))
theorem step_of{L:List ByteArray}{k m:Nat}(hk:k<L.length)(h:fK L k=m+1) :
  isF (Ys L) (Vz (Ys L) k) = !((nmS L (Ziu (Ys L) k)).toList == (nmS L (Vz (Ys L) k)).toList):=by
 have hs:=isF_step (N:=Ys L) (k:=k) (by rw[Wr];exact hk);have hne:Xj (Ys L) k≠[]:=by intro e;unfold fK at h;rw[e]at h;cases h
 rw[Zkv,Zkv]at hs;rw[Bool.eq_iff_iff,hs];simp[hne]
def NewIs(L:List ByteArray)(w:World)(e:Ending)(w':World):Prop:=
 ∃ X v0 v1 W,e=η (Ω (some ⟨X,0,none⟩))∧Zdl L W X L.length v0 v1 w'∧w.heap.size≤X∧Below w.heap.size w w'
theorem new_any(A:Option Addr)(cap:Nat)(L:List ByteArray)(w:World)(hr:Zbp w A (Vh L))(hmax:L.length≤1000000) :
  Calls Φ 64 #[Λ A L.length cap] w (NewIs L w):=by
 obtain⟨n,hn⟩:∃ n,L.length=n:=⟨_,rfl⟩
 have p1:=fun w h=>order_any A cap L w h hmax
 have hlenS:(Vh L).length=n:=by unfold Vh;rw[List.length_map];exact hn
 rw[hn]at p1 hmax ⊢;have HN:=Hh hn;clear hn;obtain⟨i0,hi0,hz00,hzs,hzb⟩:=info_parts strInfo;obtain⟨i1,hi1,hy00,hys,hyb⟩:=info_parts intInfo;go_enter Tryz.func64,Tryz.ntmps64;go_wp2_with(go_at_call 97;refine(p1 _ (hr.alloc _)).mono ?_;rintro e w1 ⟨g,rfl,hg1,hg2,ho,hb⟩)
 have hX:=(Zi.made w 162 #[Λ none 0 0,Λ none 0 0]).below hb (by simp);have HR:=Hh hr;have hs1:=Zdl.start (L:=L) hX;have hbw:Below w.heap.size w w1:=((Below.refl w.heap.size w).alloc (Θ _) _).trans (hb.mono (by simp));have HBW:=Hh hbw;have hsz:w.heap.size+1≤w1.heap.size:=by have:=hb.size;simpa using this
 have hgX:w.heap.size<g:=by simp at hg1;omega
 clear hb hX hr hbw hg1;go_loopw [12] (fun i wr=>∃(k:Nat)(v0 v1:Value),k≤n∧i=I J k∧Zdl L w1 w.heap.size k v0 v1 wr) (fun i _=>n - (intOf i).toNat)
 case atStart=>exact⟨0,_,_,by omega,rfl,hs1⟩
 case round=>
  clear hs1;obtain⟨k,v0,v1,hk,rfl,hst⟩:=hrel;by_cases hlt:k<n
  ·obtain⟨x,rfl,hx,hc⟩:=HR.out.at_ (by omega)
   have hL:k<L.length:=by rw[HN.out];exact hlt
   have hol:Vz (Ys L) k<n:=by have:=ordAt_lt (N:=Ys L) (k:=k) (by rw[Wr];exact hL);rw[Wr,HN.out]at this;exact this
   have hgk:wr.cell? ⟨g,k,none⟩=some (I J (Vz (Ys L) k:Int)):=by
    rw[hst.kp.cell (p:=⟨g,k,none⟩) hg2 (by intro h;rcases h with h | h<;>simp at h<;>omega)];obtain⟨y,he,_,hy⟩:=ho.at_ (by unfold Wy;rw[List.length_map,Uj,Wr];omega);injection he with he;subst he;have h:=hy k (by unfold Wy;rw[List.length_map,Uj,Wr];omega);rw[Addr.add_lit,Nat.zero_add]at h;rw[h];unfold Wy;rw[List.getElem?_map,List.getElem?_eq_getElem (by rw[Uj,Wr];exact hL),Zfe (by rw[Wr];exact hL)];rfl
   have hlo:wr.cell? (x.add (Vz (Ys L) k))=some (Ψ (nmS L (Vz (Ys L) k))):=by
    rw[hst.kp.cell (p:=x.add _) (Nat.lt_of_lt_of_le (Zht hx _) (by omega)) (by have:=Zht hx (Vz (Ys L) k);intro h;rcases h with h | h<;>omega)];rw[HBW.out.cell (p:=x.add _) (Zht hx _),hc _ (by omega)];exact Zmo (by rw[HN.out];exact hol)
   obtain⟨A0,c0,hv0,hf0,hcm,hcl⟩:=Yx hst.d;subst hv0;obtain⟨hx0,hx1,hz0,hz1⟩:=Zhc hst.x;have HS:=Hh hst;have HO:=Hh ho;clear hst ho hc;generalize hoo:Vz (Ys L) k=o at *;have HOO:=Hh hoo;clear hoo;have hXl:w.heap.size<wr.heap.size:=by have:=HS.out.kp.size;omega
   cases hfk:fK L k with
   |zero=>
    have hso:=step_yes0 hL hfk;rw[HOO.out]at hso;have HSO:=Hh hso;have HFK:=Hh hfk;rw[hfk]at hx0;clear hcl hfk hso;generalize hl2:nmS L o=s2 at *;have HL2:=Hh hl2;clear hl2
    ·go_wp2_with fail
     go_quiet (fail)
     go_wp2_with fail
     have hne0:some w.heap.size≠(Value.slice (A0) (fK L k) c0).ownBlock:=fun c=>by have:=(HS.out.d.lt _ c.symm).1;omega
     have hal:∀ q o,((wr.drewN q).alloc o).cell? ⟨w.heap.size,0,none⟩=some (Λ (A0) (0) c0):=fun q o=>(World.cell?_of_block (w:=wr) (a:=⟨w.heap.size,0,none⟩) (Below.heap_alloc wr o w.heap.size hXl)).trans hx0
     have a1:fK L k+1≤maxLen:=by have:=HFK.out;unfold maxLen;omega
     have a2:(fK L k+1)*16≤140737488355328:=by have:=HFK.out;omega
     have a3:∀(Y:World) o,Zdm Y wr o→w1.heap.size≤Y.heap.size:=fun Y o l=>by have:=HS.out.kp.size;rw[l.size];omega
     go_region_law (refine step_append_lies _ (by rfl) _ _ _ (by rfl) w1.heap.size 9 i0 _ 1 16 Tryz.underlying58 hi0 hz00 hzs hzb rfl (by omega) (Λ (A0) (fK L k) c0) (fK L k) (Vh (nmK L k)) (by rw[HFK.out];rfl) (own_heap (HS.out.d.alloc _) rfl) ⟨wr.heap.size,0,none⟩ 1 1 [Ψ s2] (by rfl) (by rfl) (World.news_of_block (cs:=#[Ψ s2]) (t:=9) (fr:=(0,0)) (heap_alloc_new _ _)) (by simp[Γ]) (by omega) a1 a2 (a3 _ _ ⟨rfl,rfl,rfl,rfl⟩) (wr.heap.size+1) (by simp) ?_;intro gg cap1 w3 hown1 hgrow hat hlt3;have f3a:=(Zdm.far ⟨rfl,rfl,rfl,rfl⟩ hgrow (p:=⟨w.heap.size,0,none⟩) hXl hne0).1.trans hx0;have f3b:=(Zdm.far ⟨rfl,rfl,rfl,rfl⟩ hgrow (p:=⟨w.heap.size,0,none⟩) hXl hne0).2.trans hz0)
     all_goals
      have hmid:=HS.out.mid hsz hL (by rw[HOO.out];exact HSO.out) (by rw[HOO.out];exact HL2.out) hgrow hown1 hat ⟨rfl,rfl,rfl,rfl⟩;clear f3a f3b hgrow hown1 hat hlt3 hal a1 a2 a3 hne0 hx0 hx1 hz0 hz1 hgk hlo;generalize w3.setCell ⟨w.heap.size,0,none⟩ (Λ (some ⟨gg,0,none⟩) (fK L k+1) cap1)=wm at hmid ⊢;obtain⟨hx0,hx1,hz0,hz1⟩:=Zhc hmid.x;have HM:=Hh hmid;have hne1:some w.heap.size≠v1.ownBlock:=fun c=>by have:=(HM.out.i.lt _ c.symm).1;omega
      have hsm:=HM.out.kp.size;have hXm:w.heap.size<wm.heap.size:=by omega
      have hfm:fK L k≤1000000:=by have:=fK_le L k;omega
      clear hmid;go_wp2_with(refine wpList_append_lies _ rfl (.tmp 55) (.tmp 57) 160 rfl w1.heap.size 3 i1 _ 1 8 Tryz.underlying160 hi1 hy00 hys hyb rfl (by omega) v1 (fK L k) (Wy (Xj (Ys L) k)) rfl (HM.out.i.alloc _) ⟨wm.heap.size,0,none⟩ 1 1 [I J (o:Int)] rfl rfl (World.news_of_block (cs:=#[I J (o:Int)]) (t:=3) (fr:=(0,0)) (heap_alloc_new _ _)) (by simp[Γ]) (by omega) (by unfold maxLen;omega) (by omega) (by simp;omega) (wm.heap.size+1) (by simp) ?_;intro gg2 cap2 w4 hown2 hgrow2 hat2 hlt4;have f4a:=(Zdm.far ⟨rfl,rfl,rfl,rfl⟩ hgrow2 (p:=⟨w.heap.size,1,none⟩) hXm hne1).1.trans hx1;have f4b:=(Zdm.far ⟨rfl,rfl,rfl,rfl⟩ hgrow2 (p:=⟨w.heap.size,1,none⟩) hXm hne1).2.trans hz1)
      go_roundw
      case rel=>exact⟨k+1,_,_,by omega,by go_num,HM.out.done hsz hL (by rw[HOO.out];exact HSO.out) HOO.out hgrow2 hown2 hat2 ⟨rfl,rfl,rfl,rfl⟩⟩
      case measure=>simp[intOf];omega
   |succ m=>
    have hso:=step_of hL hfk;rw[HOO.out]at hso;obtain⟨g0,off,rfl,hg0,hcc⟩:=hcl.at_ (by rw[nmK_len];omega);have hcm:=hcc m (by rw[nmK_len];omega);rw[nmK_last hfk]at hcm;have hmb:(m:Int)<1000000:=by have:=fK_le L k;omega
    have hm0:(0:Int)≤(m:Int):=Int.natCast_nonneg _;have hmn:decide ((m:Int)<0)=false:=by simp
    have HFK:=Hh hfk;rw[hfk]at hx0;clear hcc hcl hfk;generalize hl1:nmS L (Ziu (Ys L) k)=s1 at *;generalize hl2:nmS L o=s2 at *;have HL2:=Hh hl2;clear hl1 hl2;by_cases he:(s1.toList == s2.toList)=true
    ·rw[he]at hso
     have HSO:=Hh hso;clear hso;have hd:(s1.toList != s2.toList)=false:=by unfold bne;rw[he];rfl
     go_wp2_with fail
     go_quiet (fail)
     go_wp2
     go_roundw
     case rel=>exact⟨k+1,_,_,by omega,by go_num,((HS.out.no hL (by rw[HOO.out];exact HSO.out)).drewN _)⟩
     case measure=>simp[intOf];omega
    ·have he2:(s1.toList == s2.toList)=false:=by simpa using he
     rw[he2]at hso;have HSO:=Hh hso;clear hso he;have hd:(s1.toList != s2.toList)=true:=by unfold bne;rw[he2];rfl
     go_wp2_with fail
     go_quiet (fail)
     go_wp2_with fail
     have hne0:some w.heap.size≠(Value.slice (some ⟨g0,off,none⟩) (fK L k) c0).ownBlock:=fun c=>by have:=(HS.out.d.lt _ c.symm).1;omega
     have hal:∀ q o,((wr.drewN q).alloc o).cell? ⟨w.heap.size,0,none⟩=some (Λ (some ⟨g0,off,none⟩) (m+1) c0):=fun q o=>(World.cell?_of_block (w:=wr) (a:=⟨w.heap.size,0,none⟩) (Below.heap_alloc wr o w.heap.size hXl)).trans hx0
     have a1:fK L k+1≤maxLen:=by have:=HFK.out;unfold maxLen;omega
     have a2:(fK L k+1)*16≤140737488355328:=by have:=HFK.out;omega
     have a3:∀(Y:World) o,Zdm Y wr o→w1.heap.size≤Y.heap.size:=fun Y o l=>by have:=HS.out.kp.size;rw[l.size];omega
     go_region_law (refine step_append_lies _ (by rfl) _ _ _ (by rfl) w1.heap.size 9 i0 _ 1 16 Tryz.underlying58 hi0 hz00 hzs hzb rfl (by omega) (Λ (some ⟨g0,off,none⟩) (fK L k) c0) (fK L k) (Vh (nmK L k)) (by rw[HFK.out];rfl) (own_heap (HS.out.d.alloc _) rfl) ⟨wr.heap.size,0,none⟩ 1 1 [Ψ s2] (by rfl) (by rfl) (World.news_of_block (cs:=#[Ψ s2]) (t:=9) (fr:=(0,0)) (heap_alloc_new _ _)) (by simp[Γ]) (by omega) a1 a2 (a3 _ _ ⟨rfl,rfl,rfl,rfl⟩) (wr.heap.size+1) (by simp) ?_;intro gg cap1 w3 hown1 hgrow hat hlt3;have f3a:=(Zdm.far ⟨rfl,rfl,rfl,rfl⟩ hgrow (p:=⟨w.heap.size,0,none⟩) hXl hne0).1.trans hx0;have f3b:=(Zdm.far ⟨rfl,rfl,rfl,rfl⟩ hgrow (p:=⟨w.heap.size,0,none⟩) hXl hne0).2.trans hz0)
     all_goals
      have hmid:=HS.out.mid hsz hL (by rw[HOO.out];exact HSO.out) (by rw[HOO.out];exact HL2.out) hgrow hown1 hat ⟨rfl,rfl,rfl,rfl⟩;clear f3a f3b hgrow hown1 hat hlt3 hal a1 a2 a3 hne0 hx0 hx1 hz0 hz1 hgk hlo;generalize w3.setCell ⟨w.heap.size,0,none⟩ (Λ (some ⟨gg,0,none⟩) (fK L k+1) cap1)=wm at hmid ⊢;obtain⟨hx0,hx1,hz0,hz1⟩:=Zhc hmid.x;have HM:=Hh hmid;have hne1:some w.heap.size≠v1.ownBlock:=fun c=>by have:=(HM.out.i.lt _ c.symm).1;omega
      have hsm:=HM.out.kp.size;have hXm:w.heap.size<wm.heap.size:=by omega
      have hfm:fK L k≤1000000:=by have:=fK_le L k;omega
      clear hmid;go_wp2_with(refine wpList_append_lies _ rfl (.tmp 55) (.tmp 57) 160 rfl w1.heap.size 3 i1 _ 1 8 Tryz.underlying160 hi1 hy00 hys hyb rfl (by omega) v1 (fK L k) (Wy (Xj (Ys L) k)) rfl (HM.out.i.alloc _) ⟨wm.heap.size,0,none⟩ 1 1 [I J (o:Int)] rfl rfl (World.news_of_block (cs:=#[I J (o:Int)]) (t:=3) (fr:=(0,0)) (heap_alloc_new _ _)) (by simp[Γ]) (by omega) (by unfold maxLen;omega) (by omega) (by simp;omega) (wm.heap.size+1) (by simp) ?_;intro gg2 cap2 w4 hown2 hgrow2 hat2 hlt4;have f4a:=(Zdm.far ⟨rfl,rfl,rfl,rfl⟩ hgrow2 (p:=⟨w.heap.size,1,none⟩) hXm hne1).1.trans hx1;have f4b:=(Zdm.far ⟨rfl,rfl,rfl,rfl⟩ hgrow2 (p:=⟨w.heap.size,1,none⟩) hXm hne1).2.trans hz1)
      go_roundw
      case rel=>exact⟨k+1,_,_,by omega,by go_num,HM.out.done hsz hL (by rw[HOO.out];exact HSO.out) HOO.out hgrow2 hown2 hat2 ⟨rfl,rfl,rfl,rfl⟩⟩
      case measure=>simp[intOf];omega
  ·obtain rfl:k=n:=by omega
   have HS:=Hh hst;have HO:=Hh ho;clear hst ho;go_wp2
   go_ret;refine⟨w.heap.size,v0,v1,w1,rfl,by rw[HN.out];exact HS.out,Θ _,?_⟩;refine HBW.out.trans (HS.out.kp.below (by omega) fun b hb=>?_);rcases hb with rfl | hb<;>omega
end Go.Proofs.YtbdecchpleiepaaGreat
