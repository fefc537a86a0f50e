/-
  No conditions but those that each theorem names.
-/
import Derived.Deep.AppendLies
import Derived.Deep.RegionLaw
import Derived.Test.YtljdgdphldckhaaGreatQV22
set_option maxRecDepth 20000
set_option maxHeartbeats 12800000
namespace Go.Proofs.YtljdgdphldckhaaGreat
open Go Go.RowKit Go.Lib Go.Sort
set_option linter.unusedVariables false
def nmK(L:List ByteArray)(k:Nat):List ByteArray:=(Ym (Yd L) k).map (nmS L)
def fK(L:List ByteArray)(k:Nat):Nat:=(Ym (Yd L) k).length
structure Zad(L:List ByteArray)(W:World)(X k:Nat)(v0 v1:Value)(wr:World):Prop where
 x:Zb wr X 272 #[v0,v1]
 d:wr.ownsRow W.heap.size 9 1 v0 (fK L k) (Xt (nmK L k))
 i:wr.ownsRow W.heap.size 3 1 v1 (fK L k) (Xm (Ym (Yd L) k))
 ap:Zcf v0 v1
 kp:Keeps (fun b=>b=X∨W.heap.size≤b) W wr
theorem Zad.start{L:List ByteArray}{W:World}{X:Nat}(h:Zb W X 272 #[.slice none 0 0,.slice none 0 0]):Zad L W X 0 (.slice none 0 0) (.slice none 0 0) W:=
 ⟨h,World.ownsRow_nil _ _ _ _,World.ownsRow_nil _ _ _ _,Zcf.nil _,Keeps.refl _ _⟩
theorem Zad.drew{L:List ByteArray}{W wr:World}{X k:Nat}{v0 v1:Value}(h:Zad L W X k v0 v1 wr):Zad L W X k v0 v1 wr.drew:=
 ⟨h.x,h.d.drew,h.i.drew,h.ap,h.kp.drew⟩
theorem Zad.drewN{L:List ByteArray}{W wr:World}{X k:Nat}{v0 v1:Value}(h:Zad L W X k v0 v1 wr)(q:Nat):Zad L W X k v0 v1 (wr.drewN q):=
 ⟨h.x,h.d,h.i,h.ap,⟨h.kp.os,h.kp.tape,h.kp.output,h.kp.size,h.kp.block⟩⟩
theorem Zad.no{L:List ByteArray}{W wr:World}{X k:Nat}{v0 v1:Value}(h:Zad L W X k v0 v1 wr)(hk:k<L.length)(hf:isF (Yd L) (We (Yd L) k)=false):Zad L W X (k+1) v0 v1 wr:=by
 have e:=firstsK_no (N:=Yd L) (by rw[Xx];exact hk) hf;refine⟨h.x,?_,?_,h.ap,h.kp⟩
 ·unfold fK nmK;rw[e];exact h.d
 ·unfold fK;rw[e];exact h.i
structure NewMid(L:List ByteArray)(W:World)(X k:Nat)(v0 v1:Value)(wr:World):Prop where
 x:Zb wr X 272 #[v0,v1]
 d:wr.ownsRow W.heap.size 9 1 v0 (fK L k+1) (Xt (nmK L (k+1)))
 i:wr.ownsRow W.heap.size 3 1 v1 (fK L k) (Xm (Ym (Yd L) k))
 ap:Zcf v0 v1
 kp:Keeps (fun b=>b=X∨W.heap.size≤b) W wr
theorem nmK_yes{L:List ByteArray}{k:Nat}(hk:k<L.length)(hf:isF (Yd L) (We (Yd L) k)=true) :
  fK L (k+1)=fK L k+1∧Xt (nmK L (k+1))=Xt (nmK L k)++[.string (nmS L (We (Yd L) k))]∧Xm (Ym (Yd L) (k+1))=Xm (Ym (Yd L) k)++[.int .i64 (We (Yd L) k:Int)]:=by
 have e:=firstsK_yes (N:=Yd L) (by rw[Xx];exact hk) hf;unfold fK nmK Xt Xm;rw[e];simp
theorem Zad.mid{L:List ByteArray}{W wr w3 Y:World}{X k gg cap1:Nat}{v0 v1:Value}{o:Obj}{a:ByteArray}(h:Zad L W X k v0 v1 wr)(hX:X<W.heap.size)(hk:k<L.length)
  (hf:isF (Yd L) (We (Yd L) k)=true)(ha:nmS L (We (Yd L) k)=a)(hgrow:Y.grownBy w3 v0.ownBlock)
  (hown:w3.ownsRow W.heap.size 9 1 (.slice (some ⟨gg,0,none⟩) (fK L k+1) cap1) (fK L k+1) (Xt (nmK L k)++[.string a]))(hat:v0.ownBlock=some gg∨gg=wr.heap.size+1)(l:Zae Y wr o) :
  NewMid L W X k (.slice (some ⟨gg,0,none⟩) (fK L k+1) cap1) v1 (w3.setCell ⟨X,0,none⟩ (.slice (some ⟨gg,0,none⟩) (fK L k+1) cap1)):=by
 subst ha;obtain⟨e1,e2,e3⟩:=nmK_yes hk hf;have hWr:=h.kp.size;have hgg:W.heap.size≤gg:=(hown.lt gg rfl).1;have hv0:∀ b,v0.ownBlock=some b→W.heap.size≤b:=fun b hb=>(h.d.lt b hb).1
 have hv1:∀ b,v1.ownBlock=some b→W.heap.size≤b:=fun b hb=>(h.i.lt b hb).1
 have hx0:=l.whole h.x;have hi0:=l.own h.i;refine⟨?_,?_,?_,?_,?_⟩
 ·have:=(Vd hgrow hx0 (fun c=>by have:=hv0 X c;omega)).write 0 (.slice (some ⟨gg,0,none⟩) (fK L k+1) cap1)
  exact this
 ·rw[e2]
  exact Ji hown (by simp[Value.ownBlock];omega) _
 ·exact Ji (h.ap.symm.kept hi0 hgrow) (fun c=>by have:=hv1 X c;omega) _
 ·intro b hb hb2
  simp only[Value.ownBlock,Option.some.injEq]at hb;subst hb;rcases hat with c | c
  ·exact h.ap _ c hb2
  ·have:=(h.i.lt _ hb2).2;omega
 ·refine Keeps.setCell ?_ (.inl rfl) _
  exact Keeps.grown (l.keeps h.kp) hgrow fun b hb=>.inr (hv0 b hb)
theorem NewMid.done{L:List ByteArray}{W wr w3 Y:World}{X k gg cap1:Nat}{v0 v1:Value}{o:Obj}{a:Nat}(h:NewMid L W X k v0 v1 wr)(hX:X<W.heap.size)(hk:k<L.length)
  (hf:isF (Yd L) (We (Yd L) k)=true)(ha:We (Yd L) k=a)(hgrow:Y.grownBy w3 v1.ownBlock)
  (hown:w3.ownsRow W.heap.size 3 1 (.slice (some ⟨gg,0,none⟩) (fK L k+1) cap1) (fK L k+1) (Xm (Ym (Yd L) k)++[.int .i64 (a:Int)]))(hat:v1.ownBlock=some gg∨gg=wr.heap.size+1)(l:Zae Y wr o) :
  Zad L W X (k+1) v0 (.slice (some ⟨gg,0,none⟩) (fK L k+1) cap1) (w3.setCell ⟨X,1,none⟩ (.slice (some ⟨gg,0,none⟩) (fK L k+1) cap1)):=by
 subst ha;obtain⟨e1,e2,e3⟩:=nmK_yes hk hf;have hWr:=h.kp.size;have hgg:W.heap.size≤gg:=(hown.lt gg rfl).1;have hv0:∀ b,v0.ownBlock=some b→W.heap.size≤b:=fun b hb=>(h.d.lt b hb).1
 have hv1:∀ b,v1.ownBlock=some b→W.heap.size≤b:=fun b hb=>(h.i.lt b hb).1
 have hx0:=l.whole h.x;have hi0:=l.own h.d;refine⟨?_,?_,?_,?_,?_⟩
 ·have:=(Vd hgrow hx0 (fun c=>by have:=hv1 X c;omega)).write 1 (.slice (some ⟨gg,0,none⟩) (fK L k+1) cap1)
  exact this
 ·rw[e1]
  exact Ji (h.ap.kept hi0 hgrow) (fun c=>by have:=hv0 X c;omega) _
 ·rw[e1,e3]
  exact Ji hown (by simp[Value.ownBlock];omega) _
 ·intro b hb hb2
  simp only[Value.ownBlock,Option.some.injEq]at hb2;subst hb2;rcases hat with c | c
  ·exact h.ap _ hb c
  ·have:=(h.d.lt _ hb).2;omega
 ·refine Keeps.setCell ?_ (.inl rfl) _
  exact Keeps.grown (l.keeps h.kp) hgrow fun b hb=>.inr (hv1 b hb)
theorem fK_le(L:List ByteArray)(k:Nat):fK L k≤k:=firstsK_le _ _
theorem strInfo:(Tryz.prog.info? 9).map (fun i=>(i.zero,i.size,i.bytes))=some (some (.string ⟨#[]⟩),1,16):=by kernel_rfl
theorem intInfo:(Tryz.prog.info? 3).map (fun i=>(i.zero,i.size,i.bytes))=some (some (.int .i64 0),1,8):=by kernel_rfl
theorem Keeps.cell{S:Nat→Prop}{a b:World}(h:Keeps S a b){p:Addr}(hp:p.block<a.heap.size)(hn:¬ S p.block):b.cell? p=a.cell? p:=World.cell?_of_block (h.block _ hp hn)
theorem nmK_len(L:List ByteArray)(k:Nat):(Xt (nmK L k)).length=fK L k:=by simp[Xt,nmK,fK]
theorem nmK_last{L:List ByteArray}{k m:Nat}(h:fK L k=m+1):(Xt (nmK L k))[m]?=some (.string (nmS L (Zey (Yd L) k))):=by
 unfold fK at h;have hm:m<(Ym (Yd L) k).length:=by omega
 unfold Xt nmK Zey;rw[List.map_map,List.getElem?_map,List.getElem?_eq_getElem hm,h,Nat.add_sub_cancel,List.getD_eq_getElem?_getD,List.getElem?_eq_getElem hm];rfl
theorem step_yes0{L:List ByteArray}{k:Nat}(hk:k<L.length)(h:fK L k=0):isF (Yd L) (We (Yd L) k)=true:=
 (isF_step (by rw[Xx];exact hk)).2 (.inl (List.eq_nil_of_length_eq_zero h))
theorem step_of{L:List ByteArray}{k m:Nat}(hk:k<L.length)(h:fK L k=m+1) :
  isF (Yd L) (We (Yd L) k) = !((nmS L (Zey (Yd L) k)).toList == (nmS L (We (Yd L) k)).toList):=by
 have hs:=isF_step (N:=Yd L) (k:=k) (by rw[Xx];exact hk);have hne:Ym (Yd L) k≠[]:=by intro e;unfold fK at h;rw[e]at h;cases h
 rw[Zit,Zit]at hs;rw[Bool.eq_iff_iff,hs];simp[hne]
def NewIs(L:List ByteArray)(w:World)(e:Ending)(w':World):Prop:=
 ∃ X v0 v1 W,e=.returned (.pointer (some ⟨X,0,none⟩))∧Zad L W X L.length v0 v1 w'∧w.heap.size≤X∧Below w.heap.size w w'
theorem new_any(A:Option Addr)(cap:Nat)(L:List ByteArray)(w:World)(hr:Un w A (Xt L))(hmax:L.length≤1000000) :
  Calls Tryz.prog 183 #[.slice A L.length cap] w (NewIs L w):=by
 obtain⟨n,hn⟩:∃ n,L.length=n:=⟨_,rfl⟩
 have p1:=fun w h=>order_any A cap L w h hmax
 have hlenS:(Xt L).length=n:=by unfold Xt;rw[List.length_map];exact hn
 rw[hn]at p1 hmax ⊢;have HN:=Hh hn;clear hn;obtain⟨i0,hi0,hz00,hzs,hzb⟩:=info_parts strInfo;obtain⟨i1,hi1,hy00,hys,hyb⟩:=info_parts intInfo;go_enter Tryz.func183,Tryz.ntmps183;go_wp2_with(go_at_call 212;refine(p1 _ (hr.alloc _)).mono ?_;rintro e w1 ⟨g,rfl,hg1,hg2,ho,hb⟩)
 have hX:=(Zb.made w 272 #[.slice none 0 0,.slice none 0 0]).below hb (by simp);have HR:=Hh hr;have hs1:=Zad.start (L:=L) hX;have hbw:Below w.heap.size w w1:=((Below.refl w.heap.size w).alloc (Nat.le_refl _) _).trans (hb.mono (by simp));have HBW:=Hh hbw;have hsz:w.heap.size+1≤w1.heap.size:=by have:=hb.size;simpa using this
 have hgX:w.heap.size<g:=by simp at hg1;omega
 clear hb hX hr hbw hg1;go_loopw [12] (fun i wr=>∃(k:Nat)(v0 v1:Value),k≤n∧i=.int .i64 k∧Zad L w1 w.heap.size k v0 v1 wr) (fun i _=>n - (intOf i).toNat)
 case atStart=>exact⟨0,_,_,by omega,rfl,hs1⟩
 case round=>
  clear hs1;obtain⟨k,v0,v1,hk,rfl,hst⟩:=hrel;by_cases hlt:k<n
  ·obtain⟨x,rfl,hx,hc⟩:=HR.out.at_ (by omega)
   have hL:k<L.length:=by rw[HN.out];exact hlt
   have hol:We (Yd L) k<n:=by have:=ordAt_lt (N:=Yd L) (k:=k) (by rw[Xx];exact hL);rw[Xx,HN.out]at this;exact this
   have hgk:wr.cell? ⟨g,k,none⟩=some (.int .i64 (We (Yd L) k:Int)):=by
    rw[hst.kp.cell (p:=⟨g,k,none⟩) hg2 (by intro h;rcases h with h | h<;>simp at h<;>omega)];obtain⟨y,he,_,hy⟩:=ho.at_ (by unfold Xm;rw[List.length_map,Wk,Xx];omega);injection he with he;subst he;have h:=hy k (by unfold Xm;rw[List.length_map,Wk,Xx];omega);rw[Addr.add_lit,Nat.zero_add]at h;rw[h];unfold Xm;rw[List.getElem?_map,List.getElem?_eq_getElem (by rw[Wk,Xx];exact hL),Zbo (by rw[Xx];exact hL)];rfl
   have hlo:wr.cell? (x.add (We (Yd L) k))=some (.string (nmS L (We (Yd L) k))):=by
    rw[hst.kp.cell (p:=x.add _) (Nat.lt_of_lt_of_le (Zek hx _) (by omega)) (by have:=Zek hx (We (Yd L) k);intro h;rcases h with h | h<;>omega)];rw[HBW.out.cell (p:=x.add _) (Zek hx _),hc _ (by omega)];exact Zim (by rw[HN.out];exact hol)
   obtain⟨A0,c0,hv0,hf0,hcm,hcl⟩:=own_form hst.d;subst hv0;obtain⟨hx0,hx1,hz0,hz1⟩:=whole2 hst.x;have HS:=Hh hst;have HO:=Hh ho;clear hst ho hc;generalize hoo:We (Yd L) k=o at *;have HOO:=Hh hoo;clear hoo;have hXl:w.heap.size<wr.heap.size:=by have:=HS.out.kp.size;omega
   cases hfk:fK L k with
   |zero=>
    have hso:=step_yes0 hL hfk;rw[HOO.out]at hso;have HSO:=Hh hso;have HFK:=Hh hfk;rw[hfk]at hx0;clear hcl hfk hso;generalize hl2:nmS L o=s2 at *;have HL2:=Hh hl2;clear hl2
    ·go_wp2_with fail
     go_quiet (fail)
     go_wp2_with fail
     have hne0:some w.heap.size≠(Value.slice (A0) (fK L k) c0).ownBlock:=fun c=>by have:=(HS.out.d.lt _ c.symm).1;omega
     have hal:∀ q o,((wr.drewN q).alloc o).cell? ⟨w.heap.size,0,none⟩=some (.slice (A0) (0) c0):=fun q o=>(World.cell?_of_block (w:=wr) (a:=⟨w.heap.size,0,none⟩) (Below.heap_alloc wr o w.heap.size hXl)).trans hx0
     have a1:fK L k+1≤maxLen:=by have:=HFK.out;unfold maxLen;omega
     have a2:(fK L k+1)*16≤140737488355328:=by have:=HFK.out;omega
     have a3:∀(Y:World) o,Zae Y wr o→w1.heap.size≤Y.heap.size:=fun Y o l=>by have:=HS.out.kp.size;rw[l.size];omega
     go_region_law (refine step_append_lies _ (by rfl) _ _ _ (by rfl) w1.heap.size 9 i0 _ 1 16 Tryz.underlying75 hi0 hz00 hzs hzb rfl (by omega) (.slice (A0) (fK L k) c0) (fK L k) (Xt (nmK L k)) (by rw[HFK.out];rfl) (own_heap (HS.out.d.alloc _) rfl) ⟨wr.heap.size,0,none⟩ 1 1 [.string s2] (by rfl) (by rfl) (World.news_of_block (cs:=#[.string s2]) (t:=9) (fr:=(0,0)) (heap_alloc_new _ _)) (by simp[Value.oneCell']) (by omega) a1 a2 (a3 _ _ ⟨rfl,rfl,rfl,rfl⟩) (wr.heap.size+1) (by simp) ?_;intro gg cap1 w3 hown1 hgrow hat hlt3;have f3a:=(Zae.far ⟨rfl,rfl,rfl,rfl⟩ hgrow (p:=⟨w.heap.size,0,none⟩) hXl hne0).1.trans hx0;have f3b:=(Zae.far ⟨rfl,rfl,rfl,rfl⟩ hgrow (p:=⟨w.heap.size,0,none⟩) hXl hne0).2.trans hz0)
     all_goals
      have hmid:=HS.out.mid hsz hL (by rw[HOO.out];exact HSO.out) (by rw[HOO.out];exact HL2.out) hgrow hown1 hat ⟨rfl,rfl,rfl,rfl⟩;clear f3a f3b hgrow hown1 hat hlt3 hal a1 a2 a3 hne0 hx0 hx1 hz0 hz1 hgk hlo;generalize w3.setCell ⟨w.heap.size,0,none⟩ (.slice (some ⟨gg,0,none⟩) (fK L k+1) cap1)=wm at hmid ⊢;obtain⟨hx0,hx1,hz0,hz1⟩:=whole2 hmid.x;have HM:=Hh hmid;have hne1:some w.heap.size≠v1.ownBlock:=fun c=>by have:=(HM.out.i.lt _ c.symm).1;omega
      have hsm:=HM.out.kp.size;have hXm:w.heap.size<wm.heap.size:=by omega
      have hfm:fK L k≤1000000:=by have:=fK_le L k;omega
      clear hmid;go_wp2_with(refine wpList_append_lies _ rfl (.tmp 55) (.tmp 57) 270 rfl w1.heap.size 3 i1 _ 1 8 Tryz.underlying270 hi1 hy00 hys hyb rfl (by omega) v1 (fK L k) (Xm (Ym (Yd L) k)) rfl (HM.out.i.alloc _) ⟨wm.heap.size,0,none⟩ 1 1 [.int .i64 (o:Int)] rfl rfl (World.news_of_block (cs:=#[.int .i64 (o:Int)]) (t:=3) (fr:=(0,0)) (heap_alloc_new _ _)) (by simp[Value.oneCell']) (by omega) (by unfold maxLen;omega) (by omega) (by simp;omega) (wm.heap.size+1) (by simp) ?_;intro gg2 cap2 w4 hown2 hgrow2 hat2 hlt4;have f4a:=(Zae.far ⟨rfl,rfl,rfl,rfl⟩ hgrow2 (p:=⟨w.heap.size,1,none⟩) hXm hne1).1.trans hx1;have f4b:=(Zae.far ⟨rfl,rfl,rfl,rfl⟩ hgrow2 (p:=⟨w.heap.size,1,none⟩) hXm hne1).2.trans hz1)
      go_roundw
      case rel=>exact⟨k+1,_,_,by omega,by go_num,HM.out.done hsz hL (by rw[HOO.out];exact HSO.out) HOO.out hgrow2 hown2 hat2 ⟨rfl,rfl,rfl,rfl⟩⟩
      case measure=>simp[intOf];omega
   |succ m=>
    have hso:=step_of hL hfk;rw[HOO.out]at hso;obtain⟨g0,off,rfl,hg0,hcc⟩:=hcl.at_ (by rw[nmK_len];omega);have hcm:=hcc m (by rw[nmK_len];omega);rw[nmK_last hfk]at hcm;have hmb:(m:Int)<1000000:=by have:=fK_le L k;omega
    have hm0:(0:Int)≤(m:Int):=Int.natCast_nonneg _;have hmn:decide ((m:Int)<0)=false:=by simp
    have HFK:=Hh hfk;rw[hfk]at hx0;clear hcc hcl hfk;generalize hl1:nmS L (Zey (Yd L) k)=s1 at *;generalize hl2:nmS L o=s2 at *;have HL2:=Hh hl2;clear hl1 hl2;by_cases he:(s1.toList == s2.toList)=true
    ·rw[he]at hso
     have HSO:=Hh hso;clear hso;have hd:(s1.toList != s2.toList)=false:=by unfold bne;rw[he];rfl
     go_wp2_with fail
     go_quiet (fail)
     go_wp2
     go_roundw
     case rel=>exact⟨k+1,_,_,by omega,by go_num,((HS.out.no hL (by rw[HOO.out];exact HSO.out)).drewN _)⟩
     case measure=>simp[intOf];omega
    ·have he2:(s1.toList == s2.toList)=false:=by simpa using he
     rw[he2]at hso;have HSO:=Hh hso;clear hso he;have hd:(s1.toList != s2.toList)=true:=by unfold bne;rw[he2];rfl
     go_wp2_with fail
     go_quiet (fail)
     go_wp2_with fail
     have hne0:some w.heap.size≠(Value.slice (some ⟨g0,off,none⟩) (fK L k) c0).ownBlock:=fun c=>by have:=(HS.out.d.lt _ c.symm).1;omega
     have hal:∀ q o,((wr.drewN q).alloc o).cell? ⟨w.heap.size,0,none⟩=some (.slice (some ⟨g0,off,none⟩) (m+1) c0):=fun q o=>(World.cell?_of_block (w:=wr) (a:=⟨w.heap.size,0,none⟩) (Below.heap_alloc wr o w.heap.size hXl)).trans hx0
     have a1:fK L k+1≤maxLen:=by have:=HFK.out;unfold maxLen;omega
     have a2:(fK L k+1)*16≤140737488355328:=by have:=HFK.out;omega
     have a3:∀(Y:World) o,Zae Y wr o→w1.heap.size≤Y.heap.size:=fun Y o l=>by have:=HS.out.kp.size;rw[l.size];omega
     go_region_law (refine step_append_lies _ (by rfl) _ _ _ (by rfl) w1.heap.size 9 i0 _ 1 16 Tryz.underlying75 hi0 hz00 hzs hzb rfl (by omega) (.slice (some ⟨g0,off,none⟩) (fK L k) c0) (fK L k) (Xt (nmK L k)) (by rw[HFK.out];rfl) (own_heap (HS.out.d.alloc _) rfl) ⟨wr.heap.size,0,none⟩ 1 1 [.string s2] (by rfl) (by rfl) (World.news_of_block (cs:=#[.string s2]) (t:=9) (fr:=(0,0)) (heap_alloc_new _ _)) (by simp[Value.oneCell']) (by omega) a1 a2 (a3 _ _ ⟨rfl,rfl,rfl,rfl⟩) (wr.heap.size+1) (by simp) ?_;intro gg cap1 w3 hown1 hgrow hat hlt3;have f3a:=(Zae.far ⟨rfl,rfl,rfl,rfl⟩ hgrow (p:=⟨w.heap.size,0,none⟩) hXl hne0).1.trans hx0;have f3b:=(Zae.far ⟨rfl,rfl,rfl,rfl⟩ hgrow (p:=⟨w.heap.size,0,none⟩) hXl hne0).2.trans hz0)
     all_goals
      have hmid:=HS.out.mid hsz hL (by rw[HOO.out];exact HSO.out) (by rw[HOO.out];exact HL2.out) hgrow hown1 hat ⟨rfl,rfl,rfl,rfl⟩;clear f3a f3b hgrow hown1 hat hlt3 hal a1 a2 a3 hne0 hx0 hx1 hz0 hz1 hgk hlo;generalize w3.setCell ⟨w.heap.size,0,none⟩ (.slice (some ⟨gg,0,none⟩) (fK L k+1) cap1)=wm at hmid ⊢;obtain⟨hx0,hx1,hz0,hz1⟩:=whole2 hmid.x;have HM:=Hh hmid;have hne1:some w.heap.size≠v1.ownBlock:=fun c=>by have:=(HM.out.i.lt _ c.symm).1;omega
      have hsm:=HM.out.kp.size;have hXm:w.heap.size<wm.heap.size:=by omega
      have hfm:fK L k≤1000000:=by have:=fK_le L k;omega
      clear hmid;go_wp2_with(refine wpList_append_lies _ rfl (.tmp 55) (.tmp 57) 270 rfl w1.heap.size 3 i1 _ 1 8 Tryz.underlying270 hi1 hy00 hys hyb rfl (by omega) v1 (fK L k) (Xm (Ym (Yd L) k)) rfl (HM.out.i.alloc _) ⟨wm.heap.size,0,none⟩ 1 1 [.int .i64 (o:Int)] rfl rfl (World.news_of_block (cs:=#[.int .i64 (o:Int)]) (t:=3) (fr:=(0,0)) (heap_alloc_new _ _)) (by simp[Value.oneCell']) (by omega) (by unfold maxLen;omega) (by omega) (by simp;omega) (wm.heap.size+1) (by simp) ?_;intro gg2 cap2 w4 hown2 hgrow2 hat2 hlt4;have f4a:=(Zae.far ⟨rfl,rfl,rfl,rfl⟩ hgrow2 (p:=⟨w.heap.size,1,none⟩) hXm hne1).1.trans hx1;have f4b:=(Zae.far ⟨rfl,rfl,rfl,rfl⟩ hgrow2 (p:=⟨w.heap.size,1,none⟩) hXm hne1).2.trans hz1)
      go_roundw
      case rel=>exact⟨k+1,_,_,by omega,by go_num,HM.out.done hsz hL (by rw[HOO.out];exact HSO.out) HOO.out hgrow2 hown2 hat2 ⟨rfl,rfl,rfl,rfl⟩⟩
      case measure=>simp[intOf];omega
  ·obtain rfl:k=n:=by omega
   have HS:=Hh hst;have HO:=Hh ho;clear hst ho;go_wp2
   go_ret;refine⟨w.heap.size,v0,v1,w1,rfl,by rw[HN.out];exact HS.out,Nat.le_refl _,?_⟩;refine HBW.out.trans (HS.out.kp.below (by omega) fun b hb=>?_);rcases hb with rfl | hb<;>omega
end Go.Proofs.YtljdgdphldckhaaGreat
