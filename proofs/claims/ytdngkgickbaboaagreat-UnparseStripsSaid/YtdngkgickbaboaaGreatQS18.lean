/-
  No conditions but those that each theorem names.
-/
import Derived.StillTailTactics
import Derived.Deep.RegionHeld3
import Derived.Deep.QuietTactic
import Derived.BigQuiet
import Derived.RegionTactic
import Derived.IntWalk
import Derived.Test.YtdngkgickbaboaaGreatQS17
set_option maxRecDepth 20000
set_option maxHeartbeats 12800000
namespace Go.Proofs.YtdngkgickbaboaaGreat
open Go.Great Go.ChangeShapes Go.WideShapes Go.ChangeAt Go.RowKit
set_option linter.unusedVariables false
set_option linter.unusedSimpArgs false
theorem bin_vals{N:Nat→Prop}{w:World}{op:Int}{l r:Ex}{vs:List Value}(hd:Zn N w (Ex.bin op l r).ds vs) :
  vs.length=12∧vs[0]?=some (.int .i64 7)∧vs[1]?=some (.int .i64 op)∧∃ g kc ys us,vs[11]?=some (.slice (some ⟨g,0,none⟩) 2 kc)∧g<w.heap.size∧w.rangeAt g 0 ys∧w.rangeAt g 12 us∧Zn N w l.ds ys∧Zn N w r.ds us∧ys.length=12∧us.length=12:=by
 have hl:=hd.len;rw[Ex.ds_len]at hl;obtain⟨_,rfl,_,rfl,h⟩:=hd;obtain⟨sv,_,rfl,hs,h⟩:=Zn.split (x:=zSe.ds) h;obtain⟨_,rfl,_,rfl,_,rfl,C,kc,xs,_,rfl,_,hw,hk,rfl⟩:=h;have e:sv.length=6:=by rw[hs.len,Se.ds_len]
 obtain⟨ys,us,rfl,h1,h2⟩:=Zn.split (x:=l.ds) hk;have l1:ys.length=12:=by rw[h1.len,Ex.ds_len]
 have l2:us.length=12:=by rw[h2.len,Ex.ds_len]
 obtain⟨g,rfl,hg,hc⟩:=hw.reads (by rw[List.length_append,l1,l2];omega);refine⟨hl,rfl,rfl,g,kc,ys,us,by simp[List.getElem?_append,e],hg,fun j v hv=>?_,fun j v hv=>?_,h1,h2,l1,l2⟩
 ·have hj:j<ys.length:=(List.getElem?_eq_some_iff.1 hv).1
  rw[Nat.zero_add,hc _ (by rw[List.length_append];omega),List.getElem?_append_left hj,hv]
 ·have hj:j<us.length:=(List.getElem?_eq_some_iff.1 hv).1
  rw[hc _ (by rw[List.length_append];omega),List.getElem?_append_right (by omega),show 12+j - ys.length=j from by omega,hv]
theorem pBinary(w0:World)(N:Nat→Prop)(op:Int)(l r:Ex)(h1:1≤op)(h3:op≤3)(hvl:VEx l)(hvr:VEx r)(IL:∀ ys,Zn N w0 l.ds ys→Zbq w0 45 (.agg ys.toArray) (kEx l))(IR:∀ ys,Zn N w0 r.ds ys→Zbq w0 45 (.agg ys.toArray) (kEx r))
  (vs:List Value)(hd:Zn N w0 (Ex.bin op l r).ds vs):Zbq w0 80 (.agg vs.toArray) (kEx (.bin op l r)):=by
 intro b st own x h hr;have htw:=fun w=>Zlc (.bin op l r) ⟨⟨h1,h3⟩,hvl,hvr⟩ vs hd w
 obtain⟨hl,v0,v1,g,kc,ys,us,v11,hg,hy,hu,dy,du,ly,lu⟩:=bin_vals hd;have e1:brB (Zcy (.bin op l r)) (Zcy l) true=Zcs false op l:=br_must h1 h3 true l hvl;have e2:brB (Zcy (.bin op l r)) (Zcy r) false=Zcs true op r:=br_must h1 h3 false r hvr;have ke:kEx (.bin op l r)=kB (Zcs false op l) (kEx l)++([wd Zmc op]++kB (Zcs true op r) (kEx r)):=rfl;rw[ke]at hr ⊢;obtain⟨s1,E1⟩:∃ s,s=Yq st (kB (Zcs false op l) (kEx l)):=⟨_,rfl⟩
 have R1:=Hh (Vg.first hr);replace hr:=Vg.next hr;rw[←E1]at hr;obtain⟨s2,E2⟩:∃ s,s=Yq s1 ([wd Zmc op]):=⟨_,rfl⟩
 have R2:=Hh (Vg.first hr);replace hr:=Vg.next hr;rw[←E2]at hr;obtain⟨s3,E3⟩:∃ s,s=Yq s2 (kB (Zcs true op r) (kEx r)):=⟨_,rfl⟩
 have R3:=Hh hr;clear hr;have EK:Yq st ((kB (Zcs false op l) (kEx l))++(([wd Zmc op])++((kB (Zcs true op r) (kEx r)))))=s3:=by simp only[Wh,E1,E2,E3]
 rw[EK];clear EK;have O1:=Hh (pOpd w0 ys ly (Zcy (.bin op l r)) (Zcy l) true (kEx l) (IL ys dy) (fun w=>Zlc l hvl ys dy w) b (s1:=st) (s2:=s1) (by rw[e1];exact E1) (by rw[e1];exact R1.out));have P2:=Hh (fun own x=>Jk (w0:=w0) (b:=b) E2 R2.out (by simp) own x);have O3:=Hh (pOpd w0 us lu (Zcy (.bin op l r)) (Zcy r) false (kEx r) (IR us du) (fun w=>Zlc r hvr us du w) b (s1:=s2) (s2:=s3) (by rw[e2];exact E3) (by rw[e2];exact R3.out));generalize Zcy (.bin op l r)=whole at *;have HT:=Hh htw;have HVL:=Hh hl;have HLY:=Hh ly;have HLU:=Hh lu;have H1:=Hh v1;have H11:=Hh v11;have HY:=Hh hy;have HU:=Hh hu;have HDY:=Hh dy.one;have HDU:=Hh du.one;clear hd htw hl v0 v1 v11 hy hu dy du ly lu e1 e2 ke IL IR hvl hvr;have HE1:=Hh E1;clear E1;have HE2:=Hh E2;clear E2;have HE3:=Hh E3;clear E3;have T:=Hh h;clear h;go_enter Tryz.func80,Tryz.ntmps80;go_wp2_with(first
 |((with_reducible refine Zd 2 ?_);refine wpList_boxP1 T.out 84 _ (.pointer (some ⟨b,0,none⟩)) rfl rfl rfl rfl ?_;intro wn g2 tn;have T:=Hh tn;clear tn)
 |((with_reducible refine Zd 3 ?_);refine Wm T.out 54 _ (vs) rfl rfl rfl ?_;intro wn g3 tn;have T:=Hh tn;clear tn;have c0_1:wn.cell? ⟨g3,1,none⟩=some (.int .i64 op):=(T.out.get 0 rfl).nthQ 1 H1.out;have c0_11:wn.cell? ⟨g3,11,none⟩=some (.slice (some ⟨g,0,none⟩) 2 kc):=(T.out.get 0 rfl).nthQ 11 H11.out;have c1_0:wn.cell? ⟨g2,0,none⟩=some (.pointer (some ⟨b,0,none⟩)):=(T.out.get 1 rfl).read 0)
 |((with_reducible refine Zd 8 ?_);refine Zb 54 _ 54 g3 (vs) (T.out.get 0 rfl) Ua (by rw[HVL.out];exact Wq) rfl rfl rfl ?_)
 |(go_at_call 101;refine(HT.out _).mono ?_;rintro e wn ⟨rfl,bn⟩;have T:=Hh (T.out.call bn);clear bn;have c0_1:wn.cell? ⟨g3,1,none⟩=some (.int .i64 op):=(T.out.get 0 rfl).nthQ 1 H1.out;have c0_11:wn.cell? ⟨g3,11,none⟩=some (.slice (some ⟨g,0,none⟩) 2 kc):=(T.out.get 0 rfl).nthQ 11 H11.out;have c1_0:wn.cell? ⟨g2,0,none⟩=some (.pointer (some ⟨b,0,none⟩)):=(T.out.get 1 rfl).read 0)
 |((with_reducible refine Zd 4 ?_);refine Zbr T.out 3 ([.int .i64 0]) rfl rfl qz_int ?_;intro wn g4 tn;have T:=Hh tn;clear tn;have c1_1:wn.cell? ⟨g3,1,none⟩=some (.int .i64 op):=(T.out.get 1 rfl).nthQ 1 H1.out;have c1_11:wn.cell? ⟨g3,11,none⟩=some (.slice (some ⟨g,0,none⟩) 2 kc):=(T.out.get 1 rfl).nthQ 11 H11.out;have c2_0:wn.cell? ⟨g2,0,none⟩=some (.pointer (some ⟨b,0,none⟩)):=(T.out.get 2 rfl).read 0)
 |((with_reducible refine Zg 4 9 ?_);refine wpList_storeP1 T.out 0 3 _ _ 3 g4 _ (.int .i64 whole) rfl qsize_int rfl rfl rfl rfl rfl rfl ?_;intro wn tn;have T:Hid (PE w0 b st ((g4,3,[.int .i64 whole])::(g3,54,vs)::(g2,84,[.pointer (some ⟨b,0,none⟩)])::own) wn):=Hh tn;clear tn;have c1_1:wn.cell? ⟨g3,1,none⟩=some (.int .i64 op):=(T.out.get 1 rfl).nthQ 1 H1.out;have c1_11:wn.cell? ⟨g3,11,none⟩=some (.slice (some ⟨g,0,none⟩) 2 kc):=(T.out.get 1 rfl).nthQ 11 H11.out;have c2_0:wn.cell? ⟨g2,0,none⟩=some (.pointer (some ⟨b,0,none⟩)):=(T.out.get 2 rfl).read 0))
 go_loopw [14] (fun i wr=>∃ m:Nat,i=.int .i64 m∧m≤2∧PE w0 b (if m=0 then st else if m=1 then s1 else s3) ((g4,3,[.int .i64 whole])::(g3,54,vs)::(g2,84,[.pointer (some ⟨b,0,none⟩)])::own) wr) (fun i _=>2 - (intOf i).toNat)
 case atStart=>exact⟨0,by go_num,by omega,T.out⟩
 case round=>
  obtain⟨m,rfl,hm2,hT⟩:=hrel;obtain rfl | rfl | rfl:m=0∨m=1∨m=2:=by omega
  · have T:Hid (PE w0 b st ((g4,3,[.int .i64 whole])::(g3,54,vs)::(g2,84,[.pointer (some ⟨b,0,none⟩)])::own) wr):=Hh hT
    clear hT;go_wp2_with(first
 |((with_reducible refine Zd 18 ?_);refine Zab 54 _ g (0) (ys) (T.out.ranges HY.out hg) Ua (by rw[HLY.out];exact Wq) rfl rfl rfl ?_)
 |((with_reducible refine Zd 7 ?_);refine Zbr T.out 54 ([.int .i64 0,.int .i64 0,.int .i64 0,.int .i64 0,.int .i64 0,.int .i64 0,.slice none 0 0,.int .i64 0,.int .i64 0,.int .i64 0,.int .i64 0,.slice none 0 0]) rfl rfl qz_ex ?_;intro wn g7 tn;have T:=Hh tn;clear tn)
 |((with_reducible refine Zg 7 18 ?_);refine Za 54 _ _ 54 g7 _ (ys) (T.out.get 0 rfl) HLY.out (by rw[HLY.out];exact Wq) HDY.out rfl rfl rfl rfl rfl ?_;intro wn p;have T:=Hh (T.out.put 0 rfl p);clear p)
 |((with_reducible refine Zd 29 ?_);refine Zb 54 _ 54 g7 (ys) (T.out.get 0 rfl) Ua (by rw[HLY.out];exact Wq) rfl rfl rfl ?_)
 |(go_at_call 102;refine(O1.out _ _ T.out g4 g2 1 3 _ _ rfl rfl).mono ?_;rintro e wn ⟨rfl,tn⟩;have T:=Hh tn;clear tn))
    go_roundw
    case rel=>exact⟨1,by go_num,by omega,T.out.tail⟩
    case measure=>simp[intOf]
  · have T:Hid (PE w0 b s1 ((g4,3,[.int .i64 whole])::(g3,54,vs)::(g2,84,[.pointer (some ⟨b,0,none⟩)])::own) wr):=Hh hT
    clear hT;go_upto_region 7 with(first
 |((with_reducible refine Zd 18 ?_);refine Zab 54 _ g (12) (us) (T.out.ranges HU.out hg) Ua (by rw[HLU.out];exact Wq) rfl rfl rfl ?_)
 |((with_reducible refine Zd 7 ?_);refine Zbr T.out 54 ([.int .i64 0,.int .i64 0,.int .i64 0,.int .i64 0,.int .i64 0,.int .i64 0,.slice none 0 0,.int .i64 0,.int .i64 0,.int .i64 0,.int .i64 0,.slice none 0 0]) rfl rfl qz_ex ?_;intro wn g7 tn;have T:=Hh tn;clear tn)
 |((with_reducible refine Zg 7 18 ?_);refine Za 54 _ _ 54 g7 _ (us) (T.out.get 0 rfl) HLU.out (by rw[HLU.out];exact Wq) HDU.out rfl rfl rfl rfl rfl ?_;intro wn p;have T:=Hh (T.out.put 0 rfl p);clear p;have c2_1:wn.cell? ⟨g3,1,none⟩=some (.int .i64 op):=(T.out.get 2 rfl).nthQ 1 H1.out;have c3_0:wn.cell? ⟨g2,0,none⟩=some (.pointer (some ⟨b,0,none⟩)):=(T.out.get 3 rfl).read 0))
    go_cut []from 21 to 27 (fun wx=>PE w0 b s2 ((g7,54,us)::(g4,3,[.int .i64 whole])::(g3,54,vs)::(g2,84,[.pointer (some ⟨b,0,none⟩)])::own) wx)
    case first=>
     refine wp_region_held_drew (S:=fun x=>∃ s,PE w0 b s ((g7,54,us)::(g4,3,[.int .i64 whole])::(g3,54,vs)::(g2,84,[.pointer (some ⟨b,0,none⟩)])::own) x) (by kernel_rfl) ⟨_,T.out.drew⟩ (fun hS=>?_);have hP:=T.out.drew;generalize wn.drew=wf at *;refine Um (i:=0) (v:=.pointer (some ⟨b,0,none⟩)) rfl rfl (by kernel_rfl) (by kernel_rfl) (by kernel_rfl) (fun _ _ _ h=>h) (Or.inl ⟨by rfl,fun y hy=>by obtain⟨_,hy⟩:=hy;have c0:=(PE.get hy 3 rfl).read 0;go_simp⟩) hS ?_;try simp only[Qy,Qx]
     refine Um (i:=1) (v:=.pointer (some ⟨g3,1,none⟩)) rfl rfl (by kernel_rfl) (by kernel_rfl) (by kernel_rfl) (fun _ _ _ h=>h) (Or.inl ⟨by rfl,fun y hy=>by go_simp⟩) hS ?_;try simp only[Qy,Qx]
     refine Um (i:=2) (v:=.int .i64 op) rfl rfl (by kernel_rfl) (by kernel_rfl) (by kernel_rfl) (fun _ _ _ h=>h) (Or.inl ⟨by rfl,fun y hy=>by obtain⟨_,hy⟩:=hy;have c0:=(PE.get hy 2 rfl).nthQ 1 H1.out;go_simp⟩) hS ?_;try simp only[Qy,Qx]
     refine wpAnyH_ready (rs:=[3]) (by kernel_rfl) (by simp) (AllReadyH.cons rfl (fun K hK=>?_) AllReadyH.nil);clear hS;go_simp;have hP2:=hP.call (Zi wf (.cells #[.string ⟨#[43]⟩,.string ⟨#[45]⟩,.string ⟨#[42]⟩] 9));have hW:Zf (World.alloc wf (.cells #[.string ⟨#[43]⟩,.string ⟨#[45]⟩,.string ⟨#[42]⟩] 9)) wf.heap.size 9 (Zcz Zmc):=Zf.made _ _ _;obtain⟨q,hq⟩:∃ q,q=wf.heap.size:=⟨_,rfl⟩
     rw[←hq]at hW ⊢;clear hq hP;generalize World.alloc wf (.cells #[.string ⟨#[43]⟩,.string ⟨#[45]⟩,.string ⟨#[42]⟩] 9)=wf at *;have hP:=hP2;clear hP2;refine hK.out _ _ ⟨_,hP⟩ (fun hS=>?_);clear hK K;try simp only[Act.put,Qz,Qy,Qx]
     refine wpAnyH_ready (rs:=[4]) (by kernel_rfl) (by simp) (AllReadyH.cons rfl (fun K hK=>?_) AllReadyH.nil);clear hS;go_simp;go_at_call 87
     refine(Zjv hP hW op 3 3 rfl h1 (by show _≤((3:Nat):Int);omega) (by decide)).mono ?_;rintro e wf ⟨rfl,hP2⟩;clear hW;clear hP;have hP:=hP2;clear hP2;refine hK.out _ _ ⟨_,hP⟩ (fun hS=>?_);clear hK K;try simp only[Act.put,Qz,Qy,Qx]
     refine wpAnyH_ready (rs:=[5]) (by kernel_rfl) (by simp) (AllReadyH.cons rfl (fun K hK=>?_) AllReadyH.nil);clear hS;go_simp;refine hK.out _ _ ⟨_,hP.call (Zi wf (.cells #[.string (wd Zmc op)] 9))⟩ (fun hS=>?_);clear hK K;try simp only[Act.put,Qz,Qy,Qx]
     refine wpAnyH_ready (rs:=[6]) (by kernel_rfl) (by simp) (AllReadyH.cons rfl (fun K hK=>?_) AllReadyH.nil);clear hS;go_simp;go_at_call 56
     refine(P2.out _ _ _ _ _ hP rfl rfl).mono ?_;rintro e wf ⟨rfl,hP2⟩;clear hP;have hP:=hP2;clear hP2;refine hK.out _ _ ⟨_,hP⟩ (fun hS=>?_);clear hK K;try simp only[Act.put,Qz,Qy,Qx]
     refine wpAnyH_done (by kernel_rfl) ?_ _;have T:=Hh hP;clear hP hS;go_wp2_with fail
     go_meet
     case rel=>exact T.out
    case rest=>
     have T:=Hh hcut;clear hcut;go_wp2_with(first
 |((with_reducible refine Zd 29 ?_);refine Zb 54 _ 54 g7 (us) (T.out.get 0 rfl) Ua (by rw[HLU.out];exact Wq) rfl rfl rfl ?_)
 |(go_at_call 102;refine(O3.out _ _ T.out g4 g2 1 3 _ _ rfl rfl).mono ?_;rintro e wn ⟨rfl,tn⟩;have T:=Hh tn;clear tn))
     go_roundw
     case rel=>exact⟨2,by go_num,by omega,T.out.tail⟩
     case measure=>simp[intOf]
  · have T:Hid (PE w0 b s3 ((g4,3,[.int .i64 whole])::(g3,54,vs)::(g2,84,[.pointer (some ⟨b,0,none⟩)])::own) wr):=Hh hT
    clear hT;go_wp2
    go_end0
    exact⟨rfl,T.out.tail.tail.tail⟩
def Zas(k n:Int)(sv:List Value)(sd tk tl:Int)(z:Value):List Value:=.int .i64 k::.int .i64 n::(sv++[.int .i64 sd,.int .i64 tk,.int .i64 tl,z])
theorem Zfw{k n sd tk tl:Int}{sv:List Value}{z:Value}(h:sv.length=6):(Zas k n sv sd tk tl z).length=12∧(Zas k n sv sd tk tl z)[0]?=some (.int .i64 k)∧(Zas k n sv sd tk tl z)[1]?=some (.int .i64 n)∧(Zas k n sv sd tk tl z)[8]?=some (.int .i64 sd) ∧
  (∀(x:World)(g:Nat)(t:TypeId),Zf x g t (Zas k n sv sd tk tl z).toArray→x.rangeAt g 2 sv)∧(∀(x:World)(g:Nat)(t:TypeId),Zf x g t (Zas k n sv sd tk tl z).toArray→x.rangeAt g 9 [.int .i64 tk,.int .i64 tl]):=by
 refine⟨by simp[Zas,h],rfl,rfl,by simp[Zas,List.getElem?_append,h],fun x g t hw=>?_,fun x g t hw=>?_⟩
 ·have e:Zas k n sv sd tk tl z=[.int .i64 k,.int .i64 n]++sv++[.int .i64 sd,.int .i64 tk,.int .i64 tl,z]:=by simp[Zas]
  rw[e]at hw;exact hw.range
 ·have e:Zas k n sv sd tk tl z=(.int .i64 k::.int .i64 n::(sv++[.int .i64 sd]))++[.int .i64 tk,.int .i64 tl]++[z]:=by simp[Zas]
  rw[e]at hw;have:=hw.range;simpa[h]using this
theorem pEx_1(w0:World)(n sd tk tl:Int)(sv:List Value)(z:Value)(hsv:sv.length=6)(h1 : -99≤n)(h2:n≤99):Zbq w0 45 (.agg (Zas 1 n sv sd tk tl z).toArray) ([Wu n]):=by
 intro b st own x h hr;obtain⟨s1,E1⟩:∃ s,s=Yq st ([Wu n]):=⟨_,rfl⟩
 have R1:=Hh hr;clear hr;have EK:Yq st (([Wu n]))=s1:=by simp only[Wh,E1]
 rw[EK];clear EK;have P1:=Hh (fun own x=>Jk (w0:=w0) (b:=b) E1 R1.out (by simp) own x);have HE1:=Hh E1;clear E1;obtain⟨l12,a0,a1,a8,rs,rt⟩:=Zfw (k:=1) (n:=n) (sd:=sd) (tk:=tk) (tl:=tl) (z:=z) hsv;have HSV:=Hh hsv;have H0:=Hh a0;have H1:=Hh a1;have H8:=Hh a8;have RS:=Hh rs;have RT:=Hh rt;generalize Zas 1 n sv sd tk tl z=vs at *;clear l12 a0 a1 a8 rs rt hsv;have T:=Hh h;clear h;go_enter Tryz.func45,Tryz.ntmps45;go_wp2_with(first
 |((with_reducible refine Zd 3 ?_);refine Wm T.out 54 _ (vs) rfl rfl rfl ?_;intro wn g0 tn;have T:=Hh tn;clear tn;have c0_0:wn.cell? ⟨g0,0,none⟩=some (.int .i64 1):=(T.out.get 0 rfl).nthQ 0 H0.out;have c0_1:wn.cell? ⟨g0,1,none⟩=some (.int .i64 n):=(T.out.get 0 rfl).nthQ 1 H1.out;have c0_8:wn.cell? ⟨g0,8,none⟩=some (.int .i64 sd):=(T.out.get 0 rfl).nthQ 8 H8.out)
 |(go_at_call 58;(with_reducible refine(vqNum T.out (n) (h1) (h2)).mono ?_);rintro e wn ⟨rfl,tn⟩;have T:=Hh tn;clear tn;have c0_0:wn.cell? ⟨g0,0,none⟩=some (.int .i64 1):=(T.out.get 0 rfl).nthQ 0 H0.out;have c0_1:wn.cell? ⟨g0,1,none⟩=some (.int .i64 n):=(T.out.get 0 rfl).nthQ 1 H1.out;have c0_8:wn.cell? ⟨g0,8,none⟩=some (.int .i64 sd):=(T.out.get 0 rfl).nthQ 8 H8.out)
 |(go_at_call 56;refine(P1.out _ _ _ _ _ T.out rfl rfl).mono ?_;rintro e wn ⟨rfl,tn⟩;have T:=Hh tn;clear tn;have c0_0:wn.cell? ⟨g0,0,none⟩=some (.int .i64 1):=(T.out.get 0 rfl).nthQ 0 H0.out;have c0_1:wn.cell? ⟨g0,1,none⟩=some (.int .i64 n):=(T.out.get 0 rfl).nthQ 1 H1.out;have c0_8:wn.cell? ⟨g0,8,none⟩=some (.int .i64 sd):=(T.out.get 0 rfl).nthQ 8 H8.out))
 go_end0
 exact⟨rfl,T.out.tail⟩
theorem pEx_2(w0:World)(n sd tk tl:Int)(sv:List Value)(z:Value)(hsv:sv.length=6)(KS:List ByteArray)(hsel:Zbq w0 77 (.agg sv.toArray) KS):Zbq w0 45 (.agg (Zas 2 n sv sd tk tl z).toArray) ([⟨#[99,111,117,110,116]⟩]++KS):=by
 intro b st own x h hr;obtain⟨s1,E1⟩:∃ s,s=Yq st ([⟨#[99,111,117,110,116]⟩]):=⟨_,rfl⟩
 have R1:=Hh (Vg.first hr);replace hr:=Vg.next hr;rw[←E1]at hr;obtain⟨s2,E2⟩:∃ s,s=Yq s1 (KS):=⟨_,rfl⟩
 have R2:=Hh hr;clear hr;have EK:Yq st (([⟨#[99,111,117,110,116]⟩])++((KS)))=s2:=by simp only[Wh,E1,E2]
 rw[EK];clear EK;have P1:=Hh (fun own x=>Jk (w0:=w0) (b:=b) E1 R1.out (by simp) own x);have P2:=Hh (hsel.at_ (b:=b) E2 R2.out);have HE1:=Hh E1;clear E1;have HE2:=Hh E2;clear E2;obtain⟨l12,a0,a1,a8,rs,rt⟩:=Zfw (k:=2) (n:=n) (sd:=sd) (tk:=tk) (tl:=tl) (z:=z) hsv;have HSV:=Hh hsv;have H0:=Hh a0;have H1:=Hh a1;have H8:=Hh a8;have RS:=Hh rs;have RT:=Hh rt;generalize Zas 2 n sv sd tk tl z=vs at *;clear l12 a0 a1 a8 rs rt hsv;have T:=Hh h;clear h;clear hsel;go_enter Tryz.func45,Tryz.ntmps45;go_wp2_with(first
 |((with_reducible refine Zd 3 ?_);refine Wm T.out 54 _ (vs) rfl rfl rfl ?_;intro wn g0 tn;have T:=Hh tn;clear tn;have c0_0:wn.cell? ⟨g0,0,none⟩=some (.int .i64 2):=(T.out.get 0 rfl).nthQ 0 H0.out;have c0_1:wn.cell? ⟨g0,1,none⟩=some (.int .i64 n):=(T.out.get 0 rfl).nthQ 1 H1.out;have c0_8:wn.cell? ⟨g0,8,none⟩=some (.int .i64 sd):=(T.out.get 0 rfl).nthQ 8 H8.out)
 |(go_at_call 56;refine(P1.out _ _ _ _ _ T.out rfl rfl).mono ?_;rintro e wn ⟨rfl,tn⟩;have T:=Hh tn;clear tn;have c0_0:wn.cell? ⟨g0,0,none⟩=some (.int .i64 2):=(T.out.get 0 rfl).nthQ 0 H0.out;have c0_1:wn.cell? ⟨g0,1,none⟩=some (.int .i64 n):=(T.out.get 0 rfl).nthQ 1 H1.out;have c0_8:wn.cell? ⟨g0,8,none⟩=some (.int .i64 sd):=(T.out.get 0 rfl).nthQ 8 H8.out)
 |((with_reducible refine Zd 21 ?_);refine Zab 49 _ g0 (2) (sv) (RS.out _ _ _ (T.out.get 0 rfl)) qrow_sel (by rw[HSV.out];exact qsize_sel) rfl rfl rfl ?_)
 |(go_at_call 77;refine(P2.out _ _ T.out).mono ?_;rintro e wn ⟨rfl,tn⟩;have T:=Hh tn;clear tn;have c0_0:wn.cell? ⟨g0,0,none⟩=some (.int .i64 2):=(T.out.get 0 rfl).nthQ 0 H0.out;have c0_1:wn.cell? ⟨g0,1,none⟩=some (.int .i64 n):=(T.out.get 0 rfl).nthQ 1 H1.out;have c0_8:wn.cell? ⟨g0,8,none⟩=some (.int .i64 sd):=(T.out.get 0 rfl).nthQ 8 H8.out))
 go_end0
 exact⟨rfl,T.out.tail⟩
theorem pEx_3(w0:World)(n sd tk tl:Int)(sv:List Value)(z:Value)(hsv:sv.length=6)(KS:List ByteArray)(hsel:Zbq w0 77 (.agg sv.toArray) KS):Zbq w0 45 (.agg (Zas 3 n sv sd tk tl z).toArray) ([⟨#[115,117,109]⟩]++KS):=by
 intro b st own x h hr;obtain⟨s1,E1⟩:∃ s,s=Yq st ([⟨#[115,117,109]⟩]):=⟨_,rfl⟩
 have R1:=Hh (Vg.first hr);replace hr:=Vg.next hr;rw[←E1]at hr;obtain⟨s2,E2⟩:∃ s,s=Yq s1 (KS):=⟨_,rfl⟩
 have R2:=Hh hr;clear hr;have EK:Yq st (([⟨#[115,117,109]⟩])++((KS)))=s2:=by simp only[Wh,E1,E2]
 rw[EK];clear EK;have P1:=Hh (fun own x=>Jk (w0:=w0) (b:=b) E1 R1.out (by simp) own x);have P2:=Hh (hsel.at_ (b:=b) E2 R2.out);have HE1:=Hh E1;clear E1;have HE2:=Hh E2;clear E2;obtain⟨l12,a0,a1,a8,rs,rt⟩:=Zfw (k:=3) (n:=n) (sd:=sd) (tk:=tk) (tl:=tl) (z:=z) hsv;have HSV:=Hh hsv;have H0:=Hh a0;have H1:=Hh a1;have H8:=Hh a8;have RS:=Hh rs;have RT:=Hh rt;generalize Zas 3 n sv sd tk tl z=vs at *;clear l12 a0 a1 a8 rs rt hsv;have T:=Hh h;clear h;clear hsel;go_enter Tryz.func45,Tryz.ntmps45;go_wp2_with(first
 |((with_reducible refine Zd 3 ?_);refine Wm T.out 54 _ (vs) rfl rfl rfl ?_;intro wn g0 tn;have T:=Hh tn;clear tn;have c0_0:wn.cell? ⟨g0,0,none⟩=some (.int .i64 3):=(T.out.get 0 rfl).nthQ 0 H0.out;have c0_1:wn.cell? ⟨g0,1,none⟩=some (.int .i64 n):=(T.out.get 0 rfl).nthQ 1 H1.out;have c0_8:wn.cell? ⟨g0,8,none⟩=some (.int .i64 sd):=(T.out.get 0 rfl).nthQ 8 H8.out)
 |(go_at_call 56;refine(P1.out _ _ _ _ _ T.out rfl rfl).mono ?_;rintro e wn ⟨rfl,tn⟩;have T:=Hh tn;clear tn;have c0_0:wn.cell? ⟨g0,0,none⟩=some (.int .i64 3):=(T.out.get 0 rfl).nthQ 0 H0.out;have c0_1:wn.cell? ⟨g0,1,none⟩=some (.int .i64 n):=(T.out.get 0 rfl).nthQ 1 H1.out;have c0_8:wn.cell? ⟨g0,8,none⟩=some (.int .i64 sd):=(T.out.get 0 rfl).nthQ 8 H8.out)
 |((with_reducible refine Zd 30 ?_);refine Zab 49 _ g0 (2) (sv) (RS.out _ _ _ (T.out.get 0 rfl)) qrow_sel (by rw[HSV.out];exact qsize_sel) rfl rfl rfl ?_)
 |(go_at_call 77;refine(P2.out _ _ T.out).mono ?_;rintro e wn ⟨rfl,tn⟩;have T:=Hh tn;clear tn;have c0_0:wn.cell? ⟨g0,0,none⟩=some (.int .i64 3):=(T.out.get 0 rfl).nthQ 0 H0.out;have c0_1:wn.cell? ⟨g0,1,none⟩=some (.int .i64 n):=(T.out.get 0 rfl).nthQ 1 H1.out;have c0_8:wn.cell? ⟨g0,8,none⟩=some (.int .i64 sd):=(T.out.get 0 rfl).nthQ 8 H8.out))
 go_end0
 exact⟨rfl,T.out.tail⟩
theorem pEx_4(w0:World)(n sd tk tl:Int)(sv:List Value)(z:Value)(hsv:sv.length=6)  : Zbq w0 45 (.agg (Zas 4 n sv sd tk tl z).toArray) ([⟨#[114,111,117,110,100]⟩]):=by
 intro b st own x h hr;obtain⟨s1,E1⟩:∃ s,s=Yq st ([⟨#[114,111,117,110,100]⟩]):=⟨_,rfl⟩
 have R1:=Hh hr;clear hr;have EK:Yq st (([⟨#[114,111,117,110,100]⟩]))=s1:=by simp only[Wh,E1]
 rw[EK];clear EK;have P1:=Hh (fun own x=>Jk (w0:=w0) (b:=b) E1 R1.out (by simp) own x);have HE1:=Hh E1;clear E1;obtain⟨l12,a0,a1,a8,rs,rt⟩:=Zfw (k:=4) (n:=n) (sd:=sd) (tk:=tk) (tl:=tl) (z:=z) hsv;have HSV:=Hh hsv;have H0:=Hh a0;have H1:=Hh a1;have H8:=Hh a8;have RS:=Hh rs;have RT:=Hh rt;generalize Zas 4 n sv sd tk tl z=vs at *;clear l12 a0 a1 a8 rs rt hsv;have T:=Hh h;clear h;go_enter Tryz.func45,Tryz.ntmps45;go_wp2_with(first
 |((with_reducible refine Zd 3 ?_);refine Wm T.out 54 _ (vs) rfl rfl rfl ?_;intro wn g0 tn;have T:=Hh tn;clear tn;have c0_0:wn.cell? ⟨g0,0,none⟩=some (.int .i64 4):=(T.out.get 0 rfl).nthQ 0 H0.out;have c0_1:wn.cell? ⟨g0,1,none⟩=some (.int .i64 n):=(T.out.get 0 rfl).nthQ 1 H1.out;have c0_8:wn.cell? ⟨g0,8,none⟩=some (.int .i64 sd):=(T.out.get 0 rfl).nthQ 8 H8.out)
 |(go_at_call 56;refine(P1.out _ _ _ _ _ T.out rfl rfl).mono ?_;rintro e wn ⟨rfl,tn⟩;have T:=Hh tn;clear tn;have c0_0:wn.cell? ⟨g0,0,none⟩=some (.int .i64 4):=(T.out.get 0 rfl).nthQ 0 H0.out;have c0_1:wn.cell? ⟨g0,1,none⟩=some (.int .i64 n):=(T.out.get 0 rfl).nthQ 1 H1.out;have c0_8:wn.cell? ⟨g0,8,none⟩=some (.int .i64 sd):=(T.out.get 0 rfl).nthQ 8 H8.out))
 go_end0
 exact⟨rfl,T.out.tail⟩
theorem pEx_5(w0:World)(n sd tk tl:Int)(sv:List Value)(z:Value)(hsv:sv.length=6)(h1:1≤sd)(h2:sd≤3):Zbq w0 45 (.agg (Zas 5 n sv sd tk tl z).toArray) ([⟨#[104,97,110,100]⟩,wd Zp sd]):=by
 intro b st own x h hr;obtain⟨s1,E1⟩:∃ s,s=Yq st ([⟨#[104,97,110,100]⟩,wd Zp sd]):=⟨_,rfl⟩
 have R1:=Hh hr;clear hr;have EK:Yq st (([⟨#[104,97,110,100]⟩,wd Zp sd]))=s1:=by simp only[Wh,E1]
 rw[EK];clear EK;have P1:=Hh (fun own x=>Jk (w0:=w0) (b:=b) E1 R1.out (by simp) own x);have HE1:=Hh E1;clear E1;obtain⟨l12,a0,a1,a8,rs,rt⟩:=Zfw (k:=5) (n:=n) (sd:=sd) (tk:=tk) (tl:=tl) (z:=z) hsv;have HSV:=Hh hsv;have H0:=Hh a0;have H1:=Hh a1;have H8:=Hh a8;have RS:=Hh rs;have RT:=Hh rt;generalize Zas 5 n sv sd tk tl z=vs at *;clear l12 a0 a1 a8 rs rt hsv;have T:=Hh h;clear h;go_enter Tryz.func45,Tryz.ntmps45;go_wp2_with(first
 |((with_reducible refine Zd 3 ?_);refine Wm T.out 54 _ (vs) rfl rfl rfl ?_;intro wn g0 tn;have T:=Hh tn;clear tn;have c0_0:wn.cell? ⟨g0,0,none⟩=some (.int .i64 5):=(T.out.get 0 rfl).nthQ 0 H0.out;have c0_1:wn.cell? ⟨g0,1,none⟩=some (.int .i64 n):=(T.out.get 0 rfl).nthQ 1 H1.out;have c0_8:wn.cell? ⟨g0,8,none⟩=some (.int .i64 sd):=(T.out.get 0 rfl).nthQ 8 H8.out)
 |(go_at_call 78;(with_reducible refine(vqSide T.out (sd) (h1) (h2)).mono ?_);rintro e wn ⟨rfl,tn⟩;have T:=Hh tn;clear tn;have c0_0:wn.cell? ⟨g0,0,none⟩=some (.int .i64 5):=(T.out.get 0 rfl).nthQ 0 H0.out;have c0_1:wn.cell? ⟨g0,1,none⟩=some (.int .i64 n):=(T.out.get 0 rfl).nthQ 1 H1.out;have c0_8:wn.cell? ⟨g0,8,none⟩=some (.int .i64 sd):=(T.out.get 0 rfl).nthQ 8 H8.out)
 |(go_at_call 56;refine(P1.out _ _ _ _ _ T.out rfl rfl).mono ?_;rintro e wn ⟨rfl,tn⟩;have T:=Hh tn;clear tn;have c0_0:wn.cell? ⟨g0,0,none⟩=some (.int .i64 5):=(T.out.get 0 rfl).nthQ 0 H0.out;have c0_1:wn.cell? ⟨g0,1,none⟩=some (.int .i64 n):=(T.out.get 0 rfl).nthQ 1 H1.out;have c0_8:wn.cell? ⟨g0,8,none⟩=some (.int .i64 sd):=(T.out.get 0 rfl).nthQ 8 H8.out))
 go_end0
 exact⟨rfl,T.out.tail⟩
theorem pEx_6(w0:World)(n sd tk tl:Int)(sv:List Value)(z:Value)(hsv:sv.length=6)(KT:List ByteArray)(h1:1≤sd)(h2:sd≤3)(hto:Zbq w0 79 (.agg ([.int .i64 tk,.int .i64 tl]:List Value).toArray) KT):Zbq w0 45 (.agg (Zas 6 n sv sd tk tl z).toArray) ([⟨#[102,114,101,101]⟩,wd Zp sd]++KT):=by
 intro b st own x h hr;obtain⟨s1,E1⟩:∃ s,s=Yq st ([⟨#[102,114,101,101]⟩,wd Zp sd]):=⟨_,rfl⟩
 have R1:=Hh (Vg.first hr);replace hr:=Vg.next hr;rw[←E1]at hr;obtain⟨s2,E2⟩:∃ s,s=Yq s1 (KT):=⟨_,rfl⟩
 have R2:=Hh hr;clear hr;have EK:Yq st (([⟨#[102,114,101,101]⟩,wd Zp sd])++((KT)))=s2:=by simp only[Wh,E1,E2]
 rw[EK];clear EK;have P1:=Hh (fun own x=>Jk (w0:=w0) (b:=b) E1 R1.out (by simp) own x);have P2:=Hh (hto.at_ (b:=b) E2 R2.out);have HE1:=Hh E1;clear E1;have HE2:=Hh E2;clear E2;obtain⟨l12,a0,a1,a8,rs,rt⟩:=Zfw (k:=6) (n:=n) (sd:=sd) (tk:=tk) (tl:=tl) (z:=z) hsv;have HSV:=Hh hsv;have H0:=Hh a0;have H1:=Hh a1;have H8:=Hh a8;have RS:=Hh rs;have RT:=Hh rt;generalize Zas 6 n sv sd tk tl z=vs at *;clear l12 a0 a1 a8 rs rt hsv;have T:=Hh h;clear h;clear hto;go_enter Tryz.func45,Tryz.ntmps45;go_wp2_with(first
 |((with_reducible refine Zd 3 ?_);refine Wm T.out 54 _ (vs) rfl rfl rfl ?_;intro wn g0 tn;have T:=Hh tn;clear tn;have c0_0:wn.cell? ⟨g0,0,none⟩=some (.int .i64 6):=(T.out.get 0 rfl).nthQ 0 H0.out;have c0_1:wn.cell? ⟨g0,1,none⟩=some (.int .i64 n):=(T.out.get 0 rfl).nthQ 1 H1.out;have c0_8:wn.cell? ⟨g0,8,none⟩=some (.int .i64 sd):=(T.out.get 0 rfl).nthQ 8 H8.out)
 |(go_at_call 78;(with_reducible refine(vqSide T.out (sd) (h1) (h2)).mono ?_);rintro e wn ⟨rfl,tn⟩;have T:=Hh tn;clear tn;have c0_0:wn.cell? ⟨g0,0,none⟩=some (.int .i64 6):=(T.out.get 0 rfl).nthQ 0 H0.out;have c0_1:wn.cell? ⟨g0,1,none⟩=some (.int .i64 n):=(T.out.get 0 rfl).nthQ 1 H1.out;have c0_8:wn.cell? ⟨g0,8,none⟩=some (.int .i64 sd):=(T.out.get 0 rfl).nthQ 8 H8.out)
 |(go_at_call 56;refine(P1.out _ _ _ _ _ T.out rfl rfl).mono ?_;rintro e wn ⟨rfl,tn⟩;have T:=Hh tn;clear tn;have c0_0:wn.cell? ⟨g0,0,none⟩=some (.int .i64 6):=(T.out.get 0 rfl).nthQ 0 H0.out;have c0_1:wn.cell? ⟨g0,1,none⟩=some (.int .i64 n):=(T.out.get 0 rfl).nthQ 1 H1.out;have c0_8:wn.cell? ⟨g0,8,none⟩=some (.int .i64 sd):=(T.out.get 0 rfl).nthQ 8 H8.out)
 |((with_reducible refine Zd 55 ?_);refine Zab 51 _ g0 (9) ([.int .i64 tk,.int .i64 tl]) (RT.out _ _ _ (T.out.get 0 rfl)) qrow_to qsize_to rfl rfl rfl ?_)
 |(go_at_call 79;refine(P2.out _ _ T.out).mono ?_;rintro e wn ⟨rfl,tn⟩;have T:=Hh tn;clear tn;have c0_0:wn.cell? ⟨g0,0,none⟩=some (.int .i64 6):=(T.out.get 0 rfl).nthQ 0 H0.out;have c0_1:wn.cell? ⟨g0,1,none⟩=some (.int .i64 n):=(T.out.get 0 rfl).nthQ 1 H1.out;have c0_8:wn.cell? ⟨g0,8,none⟩=some (.int .i64 sd):=(T.out.get 0 rfl).nthQ 8 H8.out))
 go_end0
 exact⟨rfl,T.out.tail⟩
theorem pEx_7(w0:World)(vs:List Value)(hvl:vs.length=12)(h0:vs[0]?=some (.int .i64 7))(KB:List ByteArray)(hb:Zbq w0 80 (.agg vs.toArray) KB):Zbq w0 45 (.agg vs.toArray) KB:=by
 intro b st own x h hr;obtain⟨s1,E1⟩:∃ s,s=Yq st (KB):=⟨_,rfl⟩
 have R1:=Hh hr;clear hr;have EK:Yq st ((KB))=s1:=by simp only[Wh,E1]
 rw[EK];clear EK;have P1:=Hh (hb.at_ (b:=b) E1 R1.out);have HE1:=Hh E1;clear E1;have HVL:=Hh hvl;have H0:=Hh h0;clear hb hvl h0;have T:=Hh h;clear h;go_enter Tryz.func45,Tryz.ntmps45;go_wp2_with(first
 |((with_reducible refine Zd 3 ?_);refine Wm T.out 54 _ (vs) rfl rfl rfl ?_;intro wn g0 tn;have T:=Hh tn;clear tn;have c0_0:wn.cell? ⟨g0,0,none⟩=some (.int .i64 7):=(T.out.get 0 rfl).nthQ 0 H0.out)
 |((with_reducible refine Zd 60 ?_);refine Zb 54 _ 54 g0 (vs) (T.out.get 0 rfl) Ua (by rw[HVL.out];exact Wq) rfl rfl rfl ?_)
 |(go_at_call 80;refine(P1.out _ _ T.out).mono ?_;rintro e wn ⟨rfl,tn⟩;have T:=Hh tn;clear tn;have c0_0:wn.cell? ⟨g0,0,none⟩=some (.int .i64 7):=(T.out.get 0 rfl).nthQ 0 H0.out))
 go_end0
 exact⟨rfl,T.out.tail⟩
theorem pEx(w0:World)(N:Nat→Prop):∀(x:Ex),VEx x→∀ vs,Zn N w0 x.ds vs→Zbq w0 45 (.agg vs.toArray) (kEx x)
 |.leaf k n s sd tk tl,hv,vs,hd=>by
  obtain⟨_,rfl,_,rfl,h⟩:=hd;obtain⟨sv,_,rfl,hs,h⟩:=Zn.split (x:=s.ds) h;obtain⟨_,rfl,_,rfl,_,rfl,C,kc,xs,_,rfl,_,_,_,rfl⟩:=h;have e:sv.length=6:=by rw[hs.len,Se.ds_len]
  show Zbq w0 _ _ (kLeaf k n s sd tk tl);unfold kLeaf;rcases hv with⟨rfl,hn,_⟩ | ⟨hk,_,vs,_⟩ | ⟨rfl,_⟩ | ⟨rfl,_,_,hsd,_⟩ | ⟨rfl,_,_,hsd,ht⟩
  ·rw[if_pos rfl]
   exact pEx_1 w0 n sd tk tl sv _ e hn.1 hn.2
  ·rcases hk with rfl | rfl
   ·rw[if_neg (by decide),if_pos (.inl rfl)]
    exact pEx_2 w0 n sd tk tl sv _ e _ (pSel w0 N s vs sv hs)
   ·rw[if_neg (by decide),if_pos (.inr rfl)]
    exact pEx_3 w0 n sd tk tl sv _ e _ (pSel w0 N s vs sv hs)
  ·rw[if_neg (by decide),if_neg (by decide),if_pos rfl]
   exact pEx_4 w0 n sd tk tl sv _ e
  ·rw[if_neg (by decide),if_neg (by decide),if_neg (by decide),if_pos rfl]
   exact pEx_5 w0 n sd tk tl sv _ e hsd.1 hsd.2
  ·rw[if_neg (by decide),if_neg (by decide),if_neg (by decide),if_neg (by decide)]
   exact pEx_6 w0 n sd tk tl sv _ e _ hsd.1 hsd.2 (pTo w0 tk tl ht)
 |.bin op l r,hv,vs,hd=>by
  obtain⟨hl,v0,v1,_⟩:=bin_vals hd;exact pEx_7 w0 vs hl v0 _ (pBinary w0 N op l r hv.1.1 hv.1.2 hv.2.1 hv.2.2 (pEx w0 N l hv.2.1) (pEx w0 N r hv.2.2) vs hd)
def Zcn(h:AH):List ByteArray:=
 if h.kind=1∨h.kind=2∨h.kind=12 then Zgq h.sel++kEx h.num
 else if h.kind=3∨h.kind=5∨h.kind=14 then Zgq h.sel
 else if h.kind=4 then Zgq h.sel++kTo h.tk h.tl
 else if h.kind=6 then [qN h.name,wd Zp h.side]++(kTo h.tk h.tl++kEx h.num)
 else if h.kind=7∨h.kind=9 then [wd Zp h.side]++kEx h.num
 else if h.kind=8 then [wd Zp h.side,wd Zmq h.how]
 else [wd Zp h.side]++kTo h.tk h.tl
def Zit(X:List ByteArray):List ByteArray:=[Ys]++(X++[Xi])
def kElse(no:Bool)(e:List ByteArray):List ByteArray:=if no=true then []else [Jm]++Zit e
def kCond(h:AH):List ByteArray:=kEx h.cl++([wd wOp h.cop]++kEx h.cr)
def kAct(h:AH)(t e:List ByteArray)(no:Bool):List ByteArray:=
 [wd Vk h.kind]++(if h.kind=10 then kCond h++(Zit t++kElse no e)else if h.kind=11 then Zgq h.sel++Zit t else Zcn h++[Xc])
def Jy:Acs→List ByteArray
 |.nil=>[]
 |.cons h t e r=>kAct h (Jy t) (Jy e) e.isNil++Jy r
def kRu(r:Ru):List ByteArray:=[wd Xg r.when_]++((if r.when_=5 then [Wu r.stratum]else [])++Zit (Jy r.acts))
def Zmh(l:List Ru):List ByteArray:=[Ys]++(l.flatMap kRu++[Xi])
def kCa(c:Ca):List ByteArray:=[wd Xy 1,qN c.name,Zcj,Wu c.cost,Zci,Wu c.power]++Zmh c.rules
def kPl(p:Pl):List ByteArray:=[wd Xy 2,qN p.name]++Zmh p.rules
theorem rus_atQ{N:Nat→Prop}{w:World}:∀{l:List Ru}{xs:List Value},Zn N w (Ur l) xs→∀(k:Nat)(hk:k<l.length),∃ pre ys post,xs=pre++ys++post∧pre.length=k*5∧Zn N w (l[k]'hk).ds ys
 |[],xs,_,k,hk=>by cases hk
 |x::r,xs,h,k,hk=>by
  obtain⟨a,b,rfl,h1,h2⟩:=Zn.split (x:=x.ds) h;cases k with
  |zero=>exact⟨[],a,b,rfl,by simp,h1⟩
  |succ k=>
   obtain⟨pre,ys,post,rfl,hp,hy⟩:=rus_atQ h2 k (by simpa using hk);have hl:a.length=5:=by rw[h1.len];rfl
   exact⟨a++pre,ys,post,by simp,by rw[List.length_append,hp,hl];omega,hy⟩
open Go
def wt(v:TokV):Nat:=v.t.size+9
def wtL(l:List TokV):Nat:=(l.map wt).sum
def WS(L:List TokV):St→Nat
 |.ok a _=>wtL (L.drop a)
 |.bad _=>0
def Jt(L:List TokV)(a b:St)(c:Nat):Prop:=b.good=true→a.good=true∧c+WS L b≤WS L a
theorem Zdr(t:ByteArray):Wc [t]=t.size+1:=by simp[Wc]
theorem Xl(t:ByteArray)(k:List ByteArray):Wc (t::k)=t.size+1+Wc k:=by simp[Wc]
theorem Wf:Wc []=0:=rfl
theorem cur_k{L:List TokV}{a:Nat}(h:(Zv L a).k≠0):wtL (L.drop a)=wt (Zv L a)+wtL (L.drop (a+1))∧onA L a=a+1:=by
 have hl:a<L.length:=by
  apply Classical.byContradiction;intro hn;apply h;have e:Zv L a=zTok:=by unfold Zv;rw[List.getElem?_eq_none (by omega)];rfl
  rw[e];rfl
 refine⟨?_,by unfold onA;rw[if_neg h]⟩;have e:Zv L a=L[a]:=by unfold Zv;rw[List.getElem?_eq_getElem hl];rfl
 unfold wtL;rw[List.drop_eq_getElem_cons hl,List.map_cons,List.sum_cons,e]
theorem ba_same{s t:ByteArray}(h:s.toList=t.toList):s=t:=by
 rw[ByteArray.toList_eq,ByteArray.toList_eq]at h;exact ByteArray.ext (Array.toList_inj.1 h)
theorem Znb{v:TokV}{t:ByteArray}(h:isT v t=true):v.k≠0∧v.t=t:=by
 unfold isT at h;simp only[Bool.and_eq_true,Bool.or_eq_true,beq_iff_eq]at h;exact⟨by omega,ba_same h.2⟩
theorem wd_succ(t:ByteArray)(r:List ByteArray)(i:Nat)(hi:i≠0):wd (t::r) ((i+1:Nat):Int)=wd r (i:Int):=by
 unfold wd;obtain⟨j,rfl⟩:∃ j,i=j+1:=⟨i - 1,by omega⟩
 have e1:(((j+1+1:Nat):Int)).toNat - 1=j+1:=by omega
 have e2:(((j+1:Nat):Int)).toNat - 1=j:=by omega
 rw[e1,e2];rfl
theorem idx_tok{v:TokV}:∀{ws:List ByteArray},Jl v ws≠0→v.k≠0∧v.t=wd ws (Jl v ws)
 |[],h=>absurd rfl h
 |t::r,h=>by
  unfold Jl at h ⊢;by_cases h1:isT v t=true
  ·rw[if_pos h1];exact⟨(Znb h1).1,(Znb h1).2⟩
  ·rw[if_neg h1]at h ⊢
   by_cases h2:Jl v r=0
   ·rw[if_pos h2]at h;exact absurd rfl h
   ·rw[if_neg h2]
    obtain⟨h3,h4⟩:=idx_tok h2;exact⟨h3,by rw[wd_succ t r _ h2];exact h4⟩
theorem putS_two:∀{n:Int},0≤n→n≤99→(Wu n).size≤2:=by
 have h:∀ i:Fin 100,(Wu ((i.val:Nat):Int)).size≤2:=by decide +kernel
 intro n h1 h2;have:=h ⟨n.toNat,by omega⟩;rwa [show((n.toNat:Nat):Int)=n from by omega]at this
theorem putS_tri:∀{n:Int},0≤n→n≤99→(Wu (-n)).size≤3:=by
 have h:∀ i:Fin 100,(Wu (-((i.val:Nat):Int))).size≤3:=by decide +kernel
 intro n h1 h2;have:=h ⟨n.toNat,by omega⟩;rwa [show((n.toNat:Nat):Int)=n from by omega]at this
section
variable {L:List TokV} {nk:Int}
theorem Zjn(st:St):Jt L st st 0:=fun h=>⟨h,by omega⟩
theorem p_trans{a b c:St}{x y:Nat}(h:Jt L a b x)(k:Jt L b c y):Jt L a c (x+y):=fun g=>by
 obtain⟨g1,p1⟩:=k g;obtain⟨g2,p2⟩:=h g1;exact⟨g2,by omega⟩
theorem p_less{a b:St}{x y:Nat}(h:Jt L a b x)(hy:y≤x):Jt L a b y:=fun g=>by
 obtain⟨g1,p1⟩:=h g;exact⟨g1,by omega⟩
theorem p_wrong(a b:St)(x:Nat):Jt L a (Zgf L b) x:=by
 intro h;cases b<;>cases h
theorem Zgp{ws:List ByteArray}{st:St}(h0:Zh L ws st≠0):Jt L st (Zz L ws st) ((wd ws (Zh L ws st)).size+9):=by
 intro hg;cases st with
 |bad F=>cases hg
 |ok a d=>
  have h0':Jl (Zv L a) ws≠0:=h0;obtain⟨hk,ht⟩:=idx_tok h0';obtain⟨h1,h2⟩:=cur_k hk;refine⟨rfl,?_⟩;have e:Zz L ws (.ok a d)=.ok (onA L a) d:=if_neg h0';rw[e,h2];show(wd ws (Jl (Zv L a) ws:Nat)).size+9+wtL (L.drop (a+1))≤wtL (L.drop a);rw[h1,←ht];unfold wt;omega
theorem Zcl(ws:List ByteArray)(st:St):Jt L st (Zm L ws st) ((wd ws (Zh L ws st)).size+9):=by
 unfold Zm;by_cases h0:Zh L ws st=0
 ·rw[if_pos h0];exact p_wrong _ _ _
 ·rw[if_neg h0];exact Zgp h0
theorem p_took{t:ByteArray}{st:St}(h0:isS L t st=true):Jt L st (Xw L t st) (t.size+9):=by
 intro hg;cases st with
 |bad F=>cases hg
 |ok a d=>
  have h0':isT (Zv L a) t=true:=h0;obtain⟨hk,ht⟩:=Znb h0';obtain⟨h1,h2⟩:=cur_k hk;refine⟨rfl,?_⟩;show t.size+9+wtL (L.drop (Zav L a t))≤wtL (L.drop a);unfold Zav;rw[if_pos h0',h2,h1,←ht];unfold wt;omega
theorem Zfp(t:ByteArray)(st:St):Jt L st (Zx L t st) (t.size+9):=by
 unfold Zx;by_cases h0:isS L t st=true
 ·rw[if_pos h0];exact p_took h0
 ·rw[if_neg h0];exact p_wrong _ _ _
theorem p_note{st:St}{F:Int×Nat×Nat}{a d:Nat}{c:Nat}(h:F.1=0→Jt L st (.ok a d) c):Jt L st (Ui F (.ok a d)) c:=by
 have e:Ui F (.ok a d)=if F.1=0 then .ok a d else .bad F:=rfl
 rw[e];by_cases h0:F.1=0
 ·rw[if_pos h0];exact h h0
 ·rw[if_neg h0];intro g;cases g
theorem Zna{a k:Nat}(hk:(k:Int)≠0)(h:(Xz L a k).1=0):(Zv L a).k=k:=by
 unfold Xz at h;by_cases h1:(Zv L a).k=k
 ·exact h1
 ·rw[if_neg h1]at h;exact absurd h (Zfn _)
theorem p_int(hR:Vm L)(st:St):Jt L st (Js L st) ((Wu (Zct L st)).size+7):=by
 cases st with
 |bad F=>intro g;cases g
 |ok a d=>
  refine p_note fun h0=>?_
  have hk:(Zv L a).k=2:=Zna (k:=2) (by decide) h0;obtain⟨h1,h2⟩:=cur_k (L:=L) (a:=a) (by rw[hk];decide);have hn:=hR.int a hk;have ev:Zct L (.ok a d)=(Zv L a).n:=by show Zhf L a=_;unfold Zhf;rw[if_pos hk]
  have hs:=putS_two hn.1 hn.2;intro _;refine⟨rfl,?_⟩;have ea:Vj L a 2=a+1:=by unfold Vj;rw[if_pos hk,h2]
  rw[ev,ea];show _+wtL (L.drop (a+1))≤wtL (L.drop a);rw[h1];unfold wt;omega
theorem p_name(st:St):Jt L st (Wo L st) ((Zbl L st).size+9):=by
 cases st with
 |bad F=>intro g;cases g
 |ok a d=>
  refine p_note fun h0=>?_
  have hk:(Zv L a).k=3:=Zna (k:=3) (by decide) h0;obtain⟨h1,h2⟩:=cur_k (L:=L) (a:=a) (by rw[hk];decide);have ev:Zbl L (.ok a d)=(Zv L a).t:=by show Ziz L a=_;unfold Ziz;rw[if_pos hk]
  intro _;refine⟨rfl,?_⟩;have ea:Vj L a 3=a+1:=by unfold Vj;rw[if_pos hk,h2]
  rw[ev,ea];show _+wtL (L.drop (a+1))≤wtL (L.drop a);rw[h1];unfold wt;omega
theorem p_sign(hR:Vm L)(st:St):Jt L st (Uv L st) ((Wu (Jv L st)).size+6):=by
 cases st with
 |bad F=>intro g;cases g
 |ok a d=>
  refine p_note fun h0=>?_
  by_cases hm:isT (Zv L a) Zko=true
  ·obtain⟨hk,ht⟩:=Znb hm
   obtain⟨h1,h2⟩:=cur_k hk;have h0':(Xz L (onA L a) 2).1=0:=by unfold Zak at h0;rw[if_pos hm]at h0;exact h0
   rw[h2]at h0';have hk2:(Zv L (a+1)).k=2:=Zna (k:=2) (by decide) h0';obtain⟨h3,h4⟩:=cur_k (L:=L) (a:=a+1) (by rw[hk2];decide);have hn:=hR.int (a+1) hk2;have ev:Jv L (.ok a d) = -(Zv L (a+1)).n:=by show Zhc L a=_;unfold Zhc;rw[if_pos hm,h2,if_pos hk2]
   have hs:=putS_tri hn.1 hn.2;intro _;refine⟨rfl,?_⟩;have ea:Zch L a=a+1+1:=by unfold Zch;rw[if_pos hm,h2];first | rw[if_pos hk2,h4] | (unfold Vj;rw[if_pos hk2,h4])
   rw[ev,ea];show _+wtL (L.drop (a+1+1))≤wtL (L.drop a);rw[h1,h3];unfold wt;omega
  ·have h0':(Xz L a 2).1=0:=by unfold Zak at h0;rw[if_neg hm]at h0;exact h0
   have hk:(Zv L a).k=2:=Zna (k:=2) (by decide) h0';obtain⟨h1,h2⟩:=cur_k (L:=L) (a:=a) (by rw[hk];decide);have hn:=hR.int a hk;have ev:Jv L (.ok a d)=(Zv L a).n:=by show Zhc L a=_;unfold Zhc;rw[if_neg hm];unfold Zhf;rw[if_pos hk]
   have hs:=putS_two hn.1 hn.2;intro _;refine⟨rfl,?_⟩;have ea:Zch L a=a+1:=by unfold Zch;rw[if_neg hm];unfold Vj;rw[if_pos hk,h2]
   rw[ev,ea];show _+wtL (L.drop (a+1))≤wtL (L.drop a);rw[h1];unfold wt;omega
theorem p_down(t:ByteArray)(st:St):Jt L st (Vf L t st) (t.size+9):=by
 unfold Vf
 have h:Jt L st (Zga L t st) 0:=by
  cases st with
  |bad F=>intro g;cases g
  |ok a d=>
   show Jt L _ (if isT (Zv L a) t=true then Ui (Us L a d) (St.ok a (Zbm d))else St.ok a d) 0;split
   ·exact p_note fun _ g=>⟨rfl,by show 0+WS L (.ok a _)≤WS L (.ok a d);exact Nat.le_of_eq (Nat.zero_add _)⟩
   ·exact Zjn _
 have:=p_trans h (Zfp t (Zga L t st));rwa [Nat.zero_add]at this
theorem p_rise(t:ByteArray)(st:St):Jt L st (Zes L t st) (t.size+9):=by
 unfold Zes;intro g
 have g1:(Zx L t st).good=true:=by
  generalize Zx L t st=q at *;cases q with
  |ok a d=>rfl
  |bad F=>cases g
 obtain⟨g2,p⟩:=Zfp t st g1;refine⟨g2,?_⟩
 have e:WS L (upS (Zx L t st))=WS L (Zx L t st):=by
  generalize Zx L t st=q;cases q<;>rfl
 rw[e];exact p
theorem p_filter(hR:Vm L)(st:St)(h0:Zh L Yh st≠0):Jt L st (Wt nk L (Zh L Yh st) (Zz L Yh st)).2 (Wc (kFl (Wt nk L (Zh L Yh st) (Zz L Yh st)).1)):=by
 have hle:Zh L Yh st≤4:=by
  cases st with
  |ok a d=>exact Zbw (Zv L a) Yh
  |bad F=>exact absurd rfl h0
 have p0:=Zgp h0;intro hg;unfold Wt at hg ⊢;generalize Zh L Yh st=k at *;by_cases h12:k=1∨k=2
 ·rw[if_pos h12]at hg ⊢
  dsimp only at hg ⊢;obtain⟨g1,q1⟩:=p_sign hR _ hg;obtain⟨g2,q2⟩:=Zcl wOp _ g1;obtain⟨g3,q3⟩:=p0 g2;refine⟨g3,?_⟩;unfold kFl;dsimp only;rw[if_pos (by omega)];simp only[Xl,Wf];omega
 ·rw[if_neg h12]at hg ⊢
  by_cases h3:k=3
  ·rw[if_pos h3]at hg ⊢
   dsimp only at hg ⊢;obtain⟨g2,q2⟩:=p_name _ hg;obtain⟨g3,q3⟩:=p0 g2;refine⟨g3,?_⟩;subst h3;unfold kFl;dsimp only;rw[if_neg (by omega),if_pos rfl];simp only[Xl,Wf,Zkk];have e3:((3:Nat):Int)=3:=rfl;rw[e3]at q3;omega
  ·rw[if_neg h3]at hg ⊢
   dsimp only at hg ⊢;obtain⟨g2,q2⟩:=Zcl Vh _ hg;obtain⟨g3,q3⟩:=p0 g2;refine⟨g3,?_⟩
   have hk4:k=4:=by
    have:k≠0:=h0;omega
   subst hk4
   have hm:Zh L Vh (Zz L Yh st)≠0:=by
    intro h;unfold Zm at hg;rw[if_pos h]at hg;generalize Zz L Yh st=q at *;cases q<;>cases hg
   rw[if_neg hm];unfold kFl;dsimp only;rw[if_neg (by omega),if_neg (by omega)];have e:3+((Zh L Vh (Zz L Yh st):Nat):Int) - 3=(Zh L Vh (Zz L Yh st):Nat):=by omega
   rw[e];simp only[Xl,Wf];have e3:((4:Nat):Int)=4:=rfl;rw[e3]at q3;omega
theorem p_filters(hR:Vm L):∀(n:Nat)(st:St),Jt L st (Yc nk L n st).2 (Wc (Zls (Yc nk L n st).1))
 |0,st=>Zjn st
 |n+1,st=>by
  rw[Yc];by_cases h0:Zh L Yh st=0
  ·rw[if_pos h0];exact Zjn st
  ·rw[if_neg h0]
   dsimp only;have h:=p_trans (p_filter (nk:=nk) hR st h0) (p_filters hR n (Wt nk L (Zh L Yh st) (Zz L Yh st)).2);refine p_less h ?_;show Wc (kFl _++Zls _)≤_;rw[Yk];exact Nat.le_refl _
theorem p_where(hR:Vm L)(st:St):Jt L st (Zau L st) (Wc ([wd Zp (Ug L st).1,wd Ye (Ug L st).2.1]++(if(Ug L st).2.1=3 then [Wu (Ug L st).2.2]else []))):=by
 intro h;unfold Zau at h ⊢;unfold Ug;dsimp only;by_cases h3:Zh L Ye (Zm L Zp st)=3
 ·rw[if_pos h3]at h ⊢
  obtain⟨g1,q1⟩:=p_int hR _ h;obtain⟨g2,q2⟩:=Zcl Ye _ g1;obtain⟨g3,q3⟩:=Zcl Zp _ g2;refine⟨g3,?_⟩;rw[if_pos (by omega),if_pos h3];simp only[Yk,Xl,Wf];omega
 ·simp only[if_neg h3]at h ⊢
  obtain⟨g2,q2⟩:=Zcl Ye _ h;obtain⟨g3,q3⟩:=Zcl Zp _ g2;refine⟨g3,?_⟩;rw[if_neg (by omega)];simp only[Yk,Xl,Wf];omega
theorem s1_size(c:UInt8):(⟨#[c]⟩:ByteArray).size=1:=rfl
theorem p_sel(hR:Vm L)(n:Nat)(st:St):Jt L st (Xp nk L n st).2 (Wc (Zgq (Xp nk L n st).1)):=by
 intro h;unfold Xp at h ⊢;by_cases h3:Zh L Ym st=3
 ·rw[if_pos h3]at h ⊢
  dsimp only at h ⊢;obtain⟨g1,q1⟩:=Zfp Va _ h;obtain⟨g2,q2⟩:=Zcl Vz _ g1;obtain⟨g3,q3⟩:=p_filters (nk:=nk) hR n _ g2;obtain⟨g4,q4⟩:=p_where hR _ g3;obtain⟨g5,q5⟩:=Zcl Ym st g4;refine⟨g5,?_⟩;unfold Zgq;dsimp only;rw[if_neg (by decide)];simp only[Yk,Xl,Wf,s1_size]at q4 ⊢;have e1:Va.size=1:=rfl;rw[e1]at q1;omega
 ·rw[if_neg h3]at h ⊢
  dsimp only at h ⊢;obtain⟨g5,q5⟩:=Zcl Ym st h;refine⟨g5,?_⟩;unfold Zgq;dsimp only
  have hle:Zh L Ym st≤3:=by
   cases st with
   |ok a d=>exact Zbw (Zv L a) Ym
   |bad F=>exact Nat.zero_le _
  have hz:Zh L Ym st≠0:=by
   intro hz;unfold Zm at h;rw[if_pos hz]at h;cases st<;>cases h
  rw[if_pos (by omega),Zdr];omega
theorem p_to(hR:Vm L)(st:St):Jt L st (toS L st) (Wc (kTo (toK L st) (toL L st))):=by
 intro h;unfold toS at h ⊢;unfold toK toL kTo;by_cases h4:Zh L wTo st=4
 ·rw[if_pos h4]at h ⊢
  obtain⟨g1,q1⟩:=p_int hR _ h;obtain⟨g2,q2⟩:=Zcl wTo _ g1;refine⟨g2,?_⟩;rw[if_pos (by omega),if_pos h4];simp only[Yk,Xl,Wf];omega
 ·simp only[if_neg h4]at h ⊢
  obtain⟨g2,q2⟩:=Zcl wTo _ h;refine⟨g2,?_⟩;rw[if_neg (by omega)];simp only[Yk,Xl,Wf];omega
end
theorem kB_len(b:Bool)(X:List ByteArray):Wc (kB b X)≤Wc X+4:=by
 unfold kB;have e1:Wn.size=1:=rfl;have e2:Va.size=1:=rfl;split
 ·simp only[Yk,Xl,Wf,e1,e2];omega
 ·omega
theorem sign_size{op:Int}(h1:1≤op)(h3:op≤3):(wd Zmc op).size=1:=by
 have h:op=1∨op=2∨op=3:=by omega
 rcases h with rfl | rfl | rfl<;>rfl
theorem kEx_bin{op:Int}(h1:1≤op)(h3:op≤3)(l r:Ex):Wc (kEx (.bin op l r))≤Wc (kEx l)+Wc (kEx r)+10:=by
 have e:kEx (.bin op l r)=kB (Zcs false op l) (kEx l)++([wd Zmc op]++kB (Zcs true op r) (kEx r)):=rfl;rw[e];simp only[Yk,Xl,Wf,sign_size h1 h3];have:=kB_len (Zcs false op l) (kEx l);have:=kB_len (Zcs true op r) (kEx r);omega
theorem sum_size{k:Nat}(h0:k≠0)(h:k≤2):(wd Ja (k:Int)).size=1:=by
 have h:k=1∨k=2:=by omega
 rcases h with rfl | rfl<;>rfl
section
variable {L:List TokV} {nk:Int}
theorem Zng(ws:List ByteArray)(st:St):Zh L ws st≤ws.length:=by
 cases st with
 |ok a d=>exact Zbw (Zv L a) ws
 |bad F=>exact Nat.zero_le _
theorem p_exprs(hR:Vm L):∀ n:Nat,
  (∀ st,4*Zu L st+3≤n→Jt L st (Yd nk L n st).2 (Wc (kEx (Yd nk L n st).1))) ∧
  (∀ x,4*Zu L x.2≤n→(Ud nk L n x).2.good=true→x.2.good=true∧Wc (kEx (Ud nk L n x).1)+WS L (Ud nk L n x).2≤Wc (kEx x.1)+WS L x.2) ∧
  (∀ st,4*Zu L st+2≤n→Jt L st (Wv nk L n st).2 (Wc (kEx (Wv nk L n st).1))) ∧
  (∀ x,4*Zu L x.2≤n→(Ub nk L n x).2.good=true→x.2.good=true∧Wc (kEx (Ub nk L n x).1)+WS L (Ub nk L n x).2≤Wc (kEx x.1)+WS L x.2) ∧
  (∀ st,4*Zu L st+1≤n→Jt L st (Wd nk L n st).2 (Wc (kEx (Wd nk L n st).1)))
 |0=>⟨fun st h=>by omega,fun x _ h=>⟨h,Nat.le_refl _⟩,fun st h=>by omega,fun x _ h=>⟨h,Nat.le_refl _⟩,fun st h=>by omega⟩
 |n+1=>by
  obtain⟨i1,i2,i3,i4,i5⟩:=p_exprs hR n;refine⟨fun st hn h=>?_,fun x hn h=>?_,fun st hn h=>?_,fun x hn h=>?_,fun st hn h=>?_⟩
  ·rw[Yd]at h ⊢
   have r1:=Zdm L nk n st;obtain⟨g1,q1⟩:=i2 _ (by omega) h;obtain⟨g2,q2⟩:=i3 st (by omega) g1;exact⟨g2,by omega⟩
  ·rw[Ud]at h ⊢
   by_cases h0:Zh L Ja x.2=0
   ·rw[if_pos h0]at h ⊢;exact⟨h,Nat.le_refl _⟩
   ·rw[if_neg h0]at h ⊢
    have r1:=Vc L h0;have r2:=Zdm L nk n (Zz L Ja x.2);obtain⟨g1,q1⟩:=i2 _ (by dsimp only;omega) h;dsimp only at g1 q1;obtain⟨g2,q2⟩:=i3 _ (by omega) g1;obtain⟨g3,q3⟩:=Zgp h0 g2;have hle:=Zng (L:=L) Ja x.2;have hle:Zh L Ja x.2≤2:=hle;have hb:=kEx_bin (op:=(Zh L Ja x.2:Nat)) (by omega) (by omega) x.1 (Wv nk L n (Zz L Ja x.2)).1;rw[sum_size h0 hle]at q3;exact⟨g3,by omega⟩
  ·rw[Wv]at h ⊢
   have r1:=Zdn L nk n st;obtain⟨g1,q1⟩:=i4 _ (by omega) h;obtain⟨g2,q2⟩:=i5 st (by omega) g1;exact⟨g2,by omega⟩
  ·rw[Ub]at h ⊢
   by_cases h0:isS L Wl x.2=true
   ·rw[if_pos h0]at h ⊢
    have r1:=Zdl L h0;have r2:=Zdn L nk n (Xw L Wl x.2);obtain⟨g1,q1⟩:=i4 _ (by dsimp only;omega) h;dsimp only at g1 q1;obtain⟨g2,q2⟩:=i5 _ (by omega) g1;obtain⟨g3,q3⟩:=p_took h0 g2;have hb:=kEx_bin (op:=3) (by omega) (by omega) x.1 (Wd nk L n (Xw L Wl x.2)).1;have e1:Wl.size=1:=rfl;rw[e1]at q3;exact⟨g3,by omega⟩
   ·rw[if_neg h0]at h ⊢;exact⟨h,Nat.le_refl _⟩
  ·rw[Wd]at h ⊢
   by_cases ho:isS L Wn st=true
   ·rw[if_pos ho]at h ⊢
    dsimp only at h ⊢;have r1:=Zgn L ho;obtain⟨g1,q1⟩:=p_rise Va _ h;obtain⟨g2,q2⟩:=i1 _ (by omega) g1;obtain⟨g3,q3⟩:=p_down Wn _ g2;exact⟨g3,by omega⟩
   ·rw[if_neg ho]at h ⊢
    by_cases h0:Zh L Yz st=0
    ·rw[if_pos h0]at h ⊢
     dsimp only at h ⊢;obtain⟨g1,q1⟩:=p_sign hR _ h;refine⟨g1,?_⟩;have e:kEx (.leaf 1 (Jv L st) zSe 0 0 0)=[Wu (Jv L st)]:=rfl;rw[e,Zdr];omega
    ·rw[if_neg h0]at h ⊢
     have hle:Zh L Yz st≤5:=Zng (L:=L) Yz st;have p0:=Zgp h0;by_cases h12:Zh L Yz st=1∨Zh L Yz st=2
     ·rw[if_pos h12]at h ⊢
      dsimp only at h ⊢;obtain⟨g1,q1⟩:=p_sel hR n _ h;obtain⟨g2,q2⟩:=p0 g1;refine⟨g2,?_⟩
      have e:kEx (.leaf ((Zh L Yz st:Nat)+1) 0 (Xp nk L n (Zz L Yz st)).1 0 0 0)=[wd Yz (Zh L Yz st:Nat)]++Zgq (Xp nk L n (Zz L Yz st)).1:=by
        show kLeaf _ _ _ _ _ _=_;unfold kLeaf;rw[if_neg (by omega),if_pos (by omega)];congr 2
        rw[show((Zh L Yz st:Nat):Int)+1 - 1=(Zh L Yz st:Nat)from by omega]
      rw[e,Yk,Zdr];omega
     ·rw[if_neg h12]at h ⊢
      by_cases h3:Zh L Yz st=3
      · rw[if_pos h3]at h ⊢
        dsimp only at h ⊢;obtain⟨g2,q2⟩:=p0 h;refine⟨g2,?_⟩;have e:kEx (.leaf 4 0 zSe 0 0 0)=[wd Yz 3]:=rfl;rw[h3]at q2;have e3:((3:Nat):Int)=3:=rfl;rw[e3]at q2;rw[e,Zdr];omega
      · rw[if_neg h3]at h ⊢
        by_cases h4:Zh L Yz st=4
        ·rw[if_pos h4]at h ⊢
         dsimp only at h ⊢;obtain⟨g1,q1⟩:=Zcl Zp _ h;obtain⟨g2,q2⟩:=p0 g1;refine⟨g2,?_⟩;have e:kEx (.leaf 5 0 zSe (Zh L Zp (Zz L Yz st):Nat) 0 0)=[wd Yz 4,wd Zp (Zh L Zp (Zz L Yz st):Nat)]:=rfl;rw[h4]at q2;have e3:((4:Nat):Int)=4:=rfl;rw[e3]at q2;rw[e];simp only[Xl,Wf];omega
        ·rw[if_neg h4]at h ⊢
         dsimp only at h ⊢;obtain⟨g1,q1⟩:=p_to hR _ h;obtain⟨g3,q3⟩:=Zcl Zp _ g1;obtain⟨g2,q2⟩:=p0 g3;refine⟨g2,?_⟩;have h5:Zh L Yz st=5:=by omega
         have e:∀ a b c:Int,kEx (.leaf 6 0 zSe a b c)=[wd Yz 5,wd Zp a]++kTo b c:=fun _ _ _=>rfl
         rw[h5]at q2;have e3:((5:Nat):Int)=5:=rfl;rw[e3]at q2;rw[e];simp only[Yk,Xl,Wf];omega
theorem p_expr(hR:Vm L){n:Nat}{st:St}(hn:4*Zu L st+3≤n):Jt L st (Yd nk L n st).2 (Wc (kEx (Yd nk L n st).1)):=(p_exprs hR n).1 st hn
theorem kA1{h:AH}  (c:h.kind=1∨h.kind=2∨h.kind=12):Zcn h=Zgq h.sel++kEx h.num:=by unfold Zcn;rw[if_pos c]
theorem kA2{h:AH}(n1:¬(h.kind=1∨h.kind=2∨h.kind=12))(c:h.kind=3∨h.kind=5∨h.kind=14):Zcn h=Zgq h.sel:=by unfold Zcn;rw[if_neg n1,if_pos c]
theorem kA3{h:AH}(n1:¬(h.kind=1∨h.kind=2∨h.kind=12))(n2:¬(h.kind=3∨h.kind=5∨h.kind=14))(c:h.kind=4):Zcn h=Zgq h.sel++kTo h.tk h.tl:=by unfold Zcn;rw[if_neg n1,if_neg n2,if_pos c]
theorem kA4{h:AH}(n1:¬(h.kind=1∨h.kind=2∨h.kind=12))(n2:¬(h.kind=3∨h.kind=5∨h.kind=14))(n3:¬(h.kind=4))(c:h.kind=6):Zcn h=[qN h.name,wd Zp h.side]++(kTo h.tk h.tl++kEx h.num):=by unfold Zcn;rw[if_neg n1,if_neg n2,if_neg n3,if_pos c]
theorem kA5{h:AH}(n1:¬(h.kind=1∨h.kind=2∨h.kind=12))(n2:¬(h.kind=3∨h.kind=5∨h.kind=14))(n3:¬(h.kind=4))(n4:¬(h.kind=6))(c:h.kind=7∨h.kind=9):Zcn h=[wd Zp h.side]++kEx h.num:=by unfold Zcn;rw[if_neg n1,if_neg n2,if_neg n3,if_neg n4,if_pos c]
theorem kA6{h:AH}(n1:¬(h.kind=1∨h.kind=2∨h.kind=12))(n2:¬(h.kind=3∨h.kind=5∨h.kind=14))(n3:¬(h.kind=4))(n4:¬(h.kind=6))(n5:¬(h.kind=7∨h.kind=9))(c:h.kind=8):Zcn h=[wd Zp h.side,wd Zmq h.how]:=by unfold Zcn;rw[if_neg n1,if_neg n2,if_neg n3,if_neg n4,if_neg n5,if_pos c]
theorem kA7{h:AH}(n1:¬(h.kind=1∨h.kind=2∨h.kind=12))(n2:¬(h.kind=3∨h.kind=5∨h.kind=14))(n3:¬(h.kind=4))(n4:¬(h.kind=6))(n5:¬(h.kind=7∨h.kind=9))(n6:¬(h.kind=8)):Zcn h=[wd Zp h.side]++kTo h.tk h.tl:=by unfold Zcn;rw[if_neg n1,if_neg n2,if_neg n3,if_neg n4,if_neg n5,if_neg n6]
theorem p_plain(hR:Vm L){n k:Nat}{l c:Int}{st:St}(hk:1≤k∧k≤15∧k≠10∧k≠11)(hn:4*Zu L st+3≤n) :
  Jt L st (We nk L n (AH.zero k l c) k st).2 (Wc (Zcn (We nk L n (AH.zero k l c) k st).1))∧(We nk L n (AH.zero k l c) k st).1.kind=k:=by
 unfold We;by_cases c1:k=1∨k=2∨k=12
 ·rw[if_pos c1]
  refine⟨fun h=>?_,rfl⟩;dsimp only at h ⊢;have r:=Jd L nk n st;obtain⟨g1,q1⟩:=p_expr hR (by omega) h;obtain⟨g2,q2⟩:=p_sel hR n _ g1;refine⟨g2,?_⟩;rw[kA1  (by show((k:Int)=1∨(k:Int)=2∨(k:Int)=12);omega),Yk];dsimp only;omega
 ·rw[if_neg c1]
  have n1:¬((k:Int)=1∨(k:Int)=2∨(k:Int)=12):=by omega
  by_cases c2:k=3∨k=5∨k=14
  ·rw[if_pos c2]
   refine⟨fun h=>?_,rfl⟩;dsimp only at h ⊢;obtain⟨g2,q2⟩:=p_sel hR n _ h;refine⟨g2,?_⟩;rw[kA2 n1 (by show((k:Int)=3∨(k:Int)=5∨(k:Int)=14);omega)];exact q2
  ·rw[if_neg c2]
   have n2:¬((k:Int)=3∨(k:Int)=5∨(k:Int)=14):=by omega
   by_cases c3:k=4
   ·rw[if_pos c3]
    refine⟨fun h=>?_,rfl⟩;dsimp only at h ⊢;obtain⟨g1,q1⟩:=p_to hR _ h;obtain⟨g2,q2⟩:=p_sel hR n _ g1;refine⟨g2,?_⟩;rw[kA3 n1 n2 (by show(k:Int)=4;omega),Yk];dsimp only;omega
   ·rw[if_neg c3]
    have n3:¬(k:Int)=4:=by omega
    by_cases c4:k=6
    ·rw[if_pos c4]
     refine⟨fun h=>?_,rfl⟩;dsimp only at h ⊢;have r1:=Zfo L (Zm L Zp (Wo L st));have r2:=Xo L Zp (Wo L st);have r3:=Jq L st;obtain⟨g0,q0⟩:=p_expr hR (by omega) h;obtain⟨g1,q1⟩:=p_to hR _ g0;obtain⟨g2,q2⟩:=Zcl Zp _ g1;obtain⟨g3,q3⟩:=p_name _ g2;refine⟨g3,?_⟩;rw[kA4 n1 n2 n3 (by show(k:Int)=6;omega)];simp only[Yk,Xl,Wf,Zkk];omega
    ·rw[if_neg c4]
     have n4:¬(k:Int)=6:=by omega
     by_cases c5:k=7∨k=9
     ·rw[if_pos c5]
      refine⟨fun h=>?_,rfl⟩;dsimp only at h ⊢;have r2:=Xo L Zp st;obtain⟨g0,q0⟩:=p_expr hR (by omega) h;obtain⟨g2,q2⟩:=Zcl Zp _ g0;refine⟨g2,?_⟩;rw[kA5 n1 n2 n3 n4 (by show((k:Int)=7∨(k:Int)=9);omega)];simp only[Yk,Xl,Wf];omega
     ·rw[if_neg c5]
      have n5:¬((k:Int)=7∨(k:Int)=9):=by omega
      by_cases c6:k=8
      ·rw[if_pos c6]
       refine⟨fun h=>?_,rfl⟩;dsimp only at h ⊢;obtain⟨g0,q0⟩:=Zcl Zmq _ h;obtain⟨g2,q2⟩:=Zcl Zp _ g0;refine⟨g2,?_⟩;rw[kA6 n1 n2 n3 n4 n5 (by show(k:Int)=8;omega)];simp only[Yk,Xl,Wf];omega
      ·rw[if_neg c6]
       have n6:¬(k:Int)=8:=by omega
       have c7:k=13∨k=15:=by omega
       rw[if_pos c7];refine⟨fun h=>?_,rfl⟩;dsimp only at h ⊢;obtain⟨g0,q0⟩:=p_to hR _ h;obtain⟨g2,q2⟩:=Zcl Zp _ g0;refine⟨g2,?_⟩;rw[kA7 n1 n2 n3 n4 n5 n6];simp only[Yk,Xl,Wf];omega
theorem p_cond(hR:Vm L){n:Nat}{h0:AH}{st:St}(hn:4*Zu L st+3≤n):Jt L st (Ul nk L n h0 st).2 (Wc (kCond (Ul nk L n h0 st).1)):=by
 intro h;unfold Ul at h ⊢;dsimp only at h ⊢;have r1:=Zaz L nk n st;have r2:=Xo L wOp (Yd nk L n st).2;obtain⟨g1,q1⟩:=p_expr hR (by omega) h;obtain⟨g2,q2⟩:=Zcl wOp _ g1;obtain⟨g3,q3⟩:=p_expr hR hn g2;refine⟨g3,?_⟩;unfold kCond;simp only[Yk,Xl,Wf];omega
def kRest(h:AH)(t e:List ByteArray)(no:Bool):List ByteArray:=if h.kind=10 then kCond h++(Zit t++kElse no e)else if h.kind=11 then Zgq h.sel++Zit t else Zcn h++[Xc]
theorem kRest_11{h:AH}{t e:List ByteArray}{no:Bool}(hk:h.kind=11):kRest h t e no=Zgq h.sel++Zit t:=by
 unfold kRest;rw[if_neg (by omega),if_pos hk]
theorem kBlk_len(X:List ByteArray):Wc (Zit X)=Wc X+4:=by
 unfold Zit;have e1:Ys.size=1:=rfl;have e2:Xi.size=1:=rfl;simp only[Yk,Xl,Wf,e1,e2];omega
theorem kElse_len(no:Bool)(X:List ByteArray):Wc (kElse no X)≤Wc (Zit X)+5:=by
 unfold kElse;have e1:Jm.size=4:=rfl;split
 ·simp only[Wf];omega
 ·simp only[Yk,Xl,Wf,e1];omega
theorem p_acts(hR:Vm L):∀ n:Nat,
  (∀ st,4*Zu L st+1≤n→Jt L st (Wj nk L n st).2 (Wc (Jy (Wj nk L n st).1))) ∧
  (∀(k:Nat)(l c:Int) st,1≤k∧k≤15→4*Zu L st+4≤n→Jt L st (Zaq nk L n (AH.zero k l c) k st).st (Wc (kRest (Zaq nk L n (AH.zero k l c) k st).h (Jy (Zaq nk L n (AH.zero k l c) k st).thn) (Jy (Zaq nk L n (AH.zero k l c) k st).els) (Zaq nk L n (AH.zero k l c) k st).els.isNil)) ∧
    (Zaq nk L n (AH.zero k l c) k st).h.kind=k) ∧
  (∀ st,4*Zu L st+3≤n→Jt L st (Yp nk L n st).2 (Wc (Zit (Jy (Yp nk L n st).1))))
 |0=>⟨fun st h=>by omega,fun k l c st _ h=>by omega,fun st h=>by omega⟩
 |n+1=>by
  obtain⟨i1,i2,i3⟩:=p_acts hR n;refine⟨fun st hn=>?_,fun k l c st hk hn=>?_,fun st hn h=>?_⟩
  · rw[Wj]
    by_cases h0:Zh L Vk st=0
    ·rw[if_pos h0];exact Zjn st
    ·rw[if_neg h0]
     dsimp only;have r1:=Vc L h0;have r2:=rem_act L nk n (AH.zero (Zh L Vk st) (st.tok L).line (st.tok L).col) (Zh L Vk st) (Zz L Vk st);have hle:Zh L Vk st≤15:=Zng (L:=L) Vk st;obtain⟨a1,a2⟩:=i2 (Zh L Vk st) (st.tok L).line (st.tok L).col (Zz L Vk st) ⟨by omega,hle⟩ (by omega);intro h;obtain⟨g1,q1⟩:=i1 _ (by omega) h;obtain⟨g2,q2⟩:=a1 g1;obtain⟨g3,q3⟩:=Zgp h0 g2;refine⟨g3,?_⟩;unfold Jy;have e:∀(h:AH)(t e:List ByteArray)(no:Bool),kAct h t e no=[wd Vk h.kind]++kRest h t e no:=fun _ _ _ _=>rfl
     rw[e,a2];simp only[Yk,Xl,Wf];omega
  · rw[Zaq]
    by_cases h10:k=10
    ·rw[if_pos h10]
     subst h10;have r1:=Zkf L nk n (AH.zero (10:Nat) l c) st;have r2:=Zeh L nk n (Ul nk L n (AH.zero (10:Nat) l c) st).2;have e10:(Ul nk L n (AH.zero (10:Nat) l c) st).1.kind=10:=rfl;by_cases he:isS L Jm (Yp nk L n (Ul nk L n (AH.zero (10:Nat) l c) st).2).2=true
     ·rw[if_pos he]
      refine⟨fun h=>?_,rfl⟩;dsimp only at h ⊢;have r3:=Zdl L he;obtain⟨g1,q1⟩:=i3 _ (by omega) h;obtain⟨g2,q2⟩:=p_took he g1;obtain⟨g3,q3⟩:=i3 _ (by omega) g2;obtain⟨g4,q4⟩:=p_cond hR (by omega) g3;refine⟨g4,?_⟩;unfold kRest;rw[if_pos e10];have e1:Jm.size=4:=rfl;rw[e1]at q2;have hel:=kElse_len (Yp nk L n (Xw L Jm (Yp nk L n (Ul nk L n (AH.zero (10:Nat) l c) st).2).2)).1.isNil (Jy (Yp nk L n (Xw L Jm (Yp nk L n (Ul nk L n (AH.zero (10:Nat) l c) st).2).2)).1);simp only[Yk];omega
     ·rw[if_neg he]
      refine⟨fun h=>?_,rfl⟩;dsimp only at h ⊢;obtain⟨g3,q3⟩:=i3 _ (by omega) h;obtain⟨g4,q4⟩:=p_cond hR (by omega) g3;refine⟨g4,?_⟩;unfold kRest;rw[if_pos e10];have e:kElse (Acs.nil).isNil (Jy .nil)=[]:=rfl;rw[e];simp only[Yk,Wf];omega
    ·rw[if_neg h10]
     by_cases h11:k=11
     ·rw[if_pos h11]
      subst h11;have r1:=Jd L nk n st;refine⟨fun h=>?_,rfl⟩;dsimp only at h ⊢;obtain⟨g3,q3⟩:=i3 _ (by omega) h;obtain⟨g4,q4⟩:=p_sel hR n _ g3;refine⟨g4,?_⟩;rw[kRest_11 rfl];simp only[Yk];omega
     ·rw[if_neg h11]
      obtain⟨a1,a2⟩:=p_plain (nk:=nk) (l:=l) (c:=c) hR (n:=n) (k:=k) (st:=st) ⟨hk.1,hk.2,h10,h11⟩ (by omega);refine⟨fun h=>?_,a2⟩;dsimp only at h ⊢;obtain⟨g3,q3⟩:=Zfp Xc _ h;obtain⟨g4,q4⟩:=a1 g3;refine⟨g4,?_⟩;unfold kRest;rw[a2,if_neg (by omega),if_neg (by omega)];simp only[Yk,Zdr];omega
  · rw[Yp]at h ⊢
    dsimp only at h ⊢;have r1:=Zft L Ys st;obtain⟨g1,q1⟩:=p_rise Xi _ h;obtain⟨g2,q2⟩:=i1 _ (by omega) g1;obtain⟨g3,q3⟩:=p_down Ys _ g2;refine⟨g3,?_⟩;rw[kBlk_len];omega
theorem p_str(hR:Vm L)(k:Nat)(st:St):Jt L st (Zcd L k st) (Wc (if k=5 then [Wu (Zld L k st)]else [])):=by
 unfold Zcd Zld;by_cases h5:k=5
 ·rw[if_pos h5,if_pos h5,if_pos h5,Zdr]
  exact p_less (p_int hR st) (by omega)
 ·rw[if_neg h5,if_neg h5]
  exact Zjn st
theorem p_rules(hR:Vm L):∀(n:Nat)(st:St),4*Zu L st+2≤n→Jt L st (Wp nk L n st).2 (Wc ((Wp nk L n st).1.flatMap kRu))
 |0,st,h=>by omega
 |n+1,st,hn=>by
  rw[Wp];by_cases h0:Zh L Xg st=0
  ·rw[if_pos h0];exact Zjn st
  ·rw[if_neg h0]
   intro h;dsimp only at h ⊢;have r1:=Vc L h0;have r2:=Zmv L (Zh L Xg st) (Zz L Xg st);have r3:=Xv L Ys (Zcd L (Zh L Xg st) (Zz L Xg st));have r4:=Zkg L nk n (Zx L Ys (Zcd L (Zh L Xg st) (Zz L Xg st)));have r5:=Xv L Xi (Wj nk L n (Zx L Ys (Zcd L (Zh L Xg st) (Zz L Xg st)))).2;obtain⟨g1,q1⟩:=p_rules hR n _ (by omega) h;obtain⟨g2,q2⟩:=Zfp Xi _ g1;obtain⟨g3,q3⟩:=(p_acts (nk:=nk) hR n).1 _ (by omega) g2;obtain⟨g4,q4⟩:=Zfp Ys _ g3;obtain⟨g5,q5⟩:=p_str hR _ _ g4;obtain⟨g6,q6⟩:=Zgp h0 g5;refine⟨g6,?_⟩;have er:∀ r:Ru,kRu r=[wd Xg r.when_]++((if r.when_=5 then [Wu r.stratum]else [])++Zit (Jy r.acts)):=fun _=>rfl
   rw[List.flatMap_cons,Yk,er];dsimp only
   have e:(if((Zh L Xg st:Nat):Int)=5 then [Wu (Zld L (Zh L Xg st) (Zz L Xg st))]else [])=if Zh L Xg st=5 then [Wu (Zld L (Zh L Xg st) (Zz L Xg st))]else []:=by
    by_cases h5:Zh L Xg st=5
    ·rw[if_pos h5,if_pos (by omega)]
    ·rw[if_neg h5,if_neg (by omega)]
   rw[e];simp only[Yk,Zdr,kBlk_len];omega
theorem p_body(hR:Vm L){n:Nat}{st:St}(hn:4*Zu L st+2≤n):Jt L st (Zex nk L n st).2 (Wc (Zmh (Zex nk L n st).1)):=by
 intro h;unfold Zex at h ⊢;dsimp only at h ⊢;have r1:=Xv L Ys st;obtain⟨g1,q1⟩:=Zfp Xi _ h;obtain⟨g2,q2⟩:=p_rules hR n _ (by omega) g1;obtain⟨g3,q3⟩:=Zfp Ys _ g2;refine⟨g3,?_⟩;unfold Zmh;simp only[Yk,Zdr];omega
theorem p_card(hR:Vm L){n:Nat}{l c:Int}{st:St}(hn:4*Zu L st+2≤n):Jt L st (Zcw nk L n l c st).2 (Wc (kCa (Zcw nk L n l c st).1) - ((wd Xy 1).size+1)):=by
 intro h;unfold Zcw at h ⊢;dsimp only at h ⊢;have r1:=Jq L st;have r2:=Xv L Zcj (Wo L st);have r3:=Zff L (Zx L Zcj (Wo L st));have r4:=Xv L Zci (Js L (Zx L Zcj (Wo L st)));have r5:=Zfs L (Zx L Zci (Js L (Zx L Zcj (Wo L st))));obtain⟨g1,q1⟩:=p_body hR (by omega) h;obtain⟨g2,q2⟩:=p_sign hR _ g1;obtain⟨g3,q3⟩:=Zfp Zci _ g2;obtain⟨g4,q4⟩:=p_int hR _ g3;obtain⟨g5,q5⟩:=Zfp Zcj _ g4;obtain⟨g6,q6⟩:=p_name _ g5;refine⟨g6,?_⟩;unfold kCa;simp only[Yk,Xl,Wf,Zkk];omega
theorem p_place(hR:Vm L){n:Nat}{l c:Int}{st:St}(hn:4*Zu L st+2≤n):Jt L st (Zao nk L n l c st).2 (Wc (kPl (Zao nk L n l c st).1) - ((wd Xy 2).size+1)):=by
 intro h;unfold Zao at h ⊢;dsimp only at h ⊢;have r1:=Jq L st;obtain⟨g1,q1⟩:=p_body hR (by omega) h;obtain⟨g6,q6⟩:=p_name _ g1;refine⟨g6,?_⟩;unfold kPl;simp only[Yk,Xl,Wf,Zkk];omega
def lenFi(f:Fi):Nat:=(f.cards.map fun c=>Wc (kCa c)+1).sum+(f.places.map fun p=>Wc (kPl p)+1).sum
theorem kCa_len(c:Ca):(wd Xy 1).size+1≤Wc (kCa c):=by unfold kCa;simp only[Yk,Xl,Wf];omega
theorem kPl_len(p:Pl):(wd Xy 2).size+1≤Wc (kPl p):=by unfold kPl;simp only[Yk,Xl,Wf];omega
theorem p_file(hR:Vm L):∀(n:Nat)(st:St),4*Zu L st+1≤n→Jt L st (Ve nk L n st).2 (lenFi (Ve nk L n st).1)
 |0,st,h=>by omega
 |n+1,st,hn=>by
  rw[Ve];by_cases h0:Zh L Xy st=0
  ·rw[if_pos h0];exact Zjn st
  ·rw[if_neg h0]
   have r1:=Vc L h0;have p0:=Zgp h0;by_cases h1:Zh L Xy st=1
   ·rw[if_pos h1]
    intro h;dsimp only at h ⊢;have r2:=rem_card L nk n (st.tok L).line (st.tok L).col (Zz L Xy st);obtain⟨g1,q1⟩:=p_file hR n _ (by omega) h;obtain⟨g2,q2⟩:=p_card hR (by omega) g1;obtain⟨g3,q3⟩:=p0 g2;refine⟨g3,?_⟩;rw[h1]at q3;have e3:((1:Nat):Int)=1:=rfl;rw[e3]at q3;have:=kCa_len (Zcw nk L n (st.tok L).line (st.tok L).col (Zz L Xy st)).1;unfold lenFi at q1 ⊢;simp only[List.map_cons,List.sum_cons];omega
   ·rw[if_neg h1]
    have h2:Zh L Xy st=2:=by have:Zh L Xy st≤2:=Zng (L:=L) Xy st;omega
    intro h;dsimp only at h ⊢;have r2:=rem_place L nk n (st.tok L).line (st.tok L).col (Zz L Xy st);obtain⟨g1,q1⟩:=p_file hR n _ (by omega) h;obtain⟨g2,q2⟩:=p_place hR (by omega) g1;obtain⟨g3,q3⟩:=p0 g2;refine⟨g3,?_⟩;rw[h2]at q3;have e3:((2:Nat):Int)=2:=rfl;rw[e3]at q3;have:=kPl_len (Zao nk L n (st.tok L).line (st.tok L).col (Zz L Xy st)).1;unfold lenFi at q1 ⊢;simp only[List.map_cons,List.sum_cons];omega
end
theorem tokL_to(l:List Int):(Yf l).2.2.1≤(Yf l).2.2.2:=by
 cases l with
 |nil=>exact Nat.le_refl _
 |cons c r=>
  refine Jj c r (fun x=>x.2.2.1≤x.2.2.2) ?_ ?_ ?_ ?_ ?_ ?_ ?_ ?_<;>intros<;>simp
theorem Tr.weight{s:ByteArray}{a:Nat}{L:List TokV}(h:Tr s a L):wtL L+10*a≤10*s.size+9:=by
 induction h with
 |fin a ha=>
  have e:wtL [Zlv s a]=9:=rfl;rw[e];omega
 |skip a b L hab _ ih=>omega
 |tok a L ha hk _ _ ih=>
  have h1:=Zax s ha (by omega);have h2:=tokL_to (Zk s a);have e:wtL (Zep s a::L)=(Zep s a).t.size+9+wtL L:=by simp[wtL,wt]
  have h3:(Zep s a).t.size≤(Yf (Zk s a)).2.2.2:=by
   show(s.extract _ _).size≤_;rw[ByteArray.size_extract];omega
  rw[e];omega
theorem text_weight(s:ByteArray)(hs:s.size≤65536):WS (Wk s) (Up s)≤10*s.size+9:=by
 obtain⟨L,E,p,hc⟩:∃ L E p,Uq s 0 []=(L,E,p):=⟨_,_,_,rfl⟩
 have hf:=Zgl s s.size 0 [] L E p (by omega) (by omega) (Bd.zero s) hc;unfold Up Wk;rw[Zeq s hs hc];by_cases hE:E=0
 ·obtain⟨L2,h2,h3⟩:=hf.1 hE
  have e:L=L2:=h2;subst e;rw[if_pos hE];have:=h3.weight;show wtL (List.drop 0 L)≤_;rw[List.drop_zero];omega
 ·rw[if_neg hE,if_neg hE]
  exact Nat.zero_le _
theorem parse_len(nk:Int)(s:ByteArray)(hs:s.size≤65536):lenFi (Zjm nk s).1≤10*s.size+9:=by
 unfold Zjm;dsimp only;by_cases hg:(Xh (Wk s) (fileO nk s).2).good=true
 ·rw[if_pos hg]
  have h2:=over_good hg;unfold fileO at h2 ⊢;rcases text_ok s hs with⟨F,e1,e2⟩ | ⟨e1,hr⟩
  ·rw[e1,show Zbj s=(Zbj s - 1)+1 from by unfold Zbj;omega,file_off]at h2
   cases h2
  ·have:=(p_file (nk:=nk) hr (Zbj s) (Up s) (by have:=Zjx s;unfold Zbj;omega) h2).2
   have:=text_weight s hs;omega
 ·rw[if_neg hg]
  exact Nat.zero_le _
open Go.ChangeShapes Go.WideShapes Go.ChangeAt Go.RowKit
theorem Xs{w:World}{g:Nat}{t:TypeId}{a b c d e f:Value}(h:Zf w g t #[a,b,c,d,e,f]):w.cell? ⟨g,0,none⟩=some a∧w.cell? ⟨g,1,none⟩=some b∧w.cell? ⟨g,2,none⟩=some c∧w.cell? ⟨g,3,none⟩=some d∧w.cell? ⟨g,4,none⟩=some e∧w.cell? ⟨g,5,none⟩=some f:=
 ⟨by rw[h.read];rfl,by rw[h.read];rfl,by rw[h.read];rfl,by rw[h.read];rfl,by rw[h.read];rfl,by rw[h.read];rfl⟩
theorem Yu{o:Oper}{xs:Nat→Option Bool}(h:o.guard=none):Region.wanted o xs=true:=by unfold Region.wanted;rw[h]
section
variable {P:Program} {ops:Array Oper} {S:World→Prop} {o:Oper} {a:Act}
theorem Uf{x:Operand}{v:Value}(g:o.guard=none)(ho:o.op=.move x)(e:a.eval x=v):YieldsIf P ops S o v a:=
 .inl ⟨(by unfold Region.wanted;rw[g]),fun w _=>by unfold execOp;rw[ho];simp[e,Sem.run_pure]⟩
theorem Ju{t e:TypeId}{x y:Operand}{b n c k sz:Nat}(g:o.guard=none)(ho:o.op=.indexAddr t x y)(hx:a.eval x=.slice (some ⟨b,0,none⟩) n c)(hy:a.eval y=.int .i64 (k:Int))(hk:k<n)
  (hu:P.underlying t=some (.slice e))(hs:(P.info? e).map (·.size)=some sz):YieldsIf P ops S o (.pointer (some ⟨b,k*sz,none⟩)) a:=
 .inl ⟨(by unfold Region.wanted;rw[g]),fun w _=>by
  obtain⟨i,hi,hz⟩:=Option.map_eq_some_iff.1 hs;unfold execOp;rw[ho];have h0:(0:Int)≤(k:Int):=by omega
  have h1:(k:Int)<(n:Int):=by omega
  have h2:((k:Int)).toNat=k:=by omega
  simp[hx,hy,Instr.indexAt,asIntOf,run_underlying hu,sizeOf,typeInfo,hi,hz,h1,Addr.add_lit,Sem.run_bind,Sem.run_pure];intro hle;omega⟩
theorem Ji{T:TypeId}{x:Operand}{b k:Nat}{ys:List Value}(g:o.guard=none)(ho:o.op=.load T x)(hx:a.eval x=.pointer (some ⟨b,k,none⟩))(hS:∀ w,S w→w.rangeAt b k ys)
  (hu:(P.underlying T).map TypeDesc.isRow=some true)(hi:(P.info? T).map (·.size)=some ys.length):YieldsIf P ops S o (.agg ys.toArray) a:=by
 obtain⟨d,hu,hr⟩:=Option.map_eq_some_iff.1 hu;exact yieldsIf_load_mid ((by unfold Region.wanted;rw[g])) T x ho b k hx ys d hS hu hr hi
end
theorem Vl{w y:World}{b k:Nat}{ys:List Value}(h:w.rangeAt b k ys)(hb:b<w.heap.size)(hy:Below w.heap.size w y):y.rangeAt b k ys:=fun j v hv=>by
 have:=h j v hv;rw[←this];exact hy.cell (p:=⟨b,k+j,none⟩) hb
open Go Go.RowKit
theorem Env.permB{w x:World}{bs cs:List Bk}{rs:List Rw}{ts:List (Ds×List Value)}(h:Env w bs rs ts x)(hp:bs.Perm cs):Env w cs rs ts x:=
 ⟨fun b hb=>h.at_ b (hp.mem_iff.2 hb),fun b hb=>h.lo b (hp.mem_iff.2 hb),(hp.map _).nodup_iff.1 h.nod,h.row,fun r hr b hb=>h.apart r hr b (hp.mem_iff.2 hb),h.rapart,
   fun u hu=>(h.deep u hu).mono fun k _ hn=>⟨hn.1,fun b hb=>hn.2.1 b (hp.mem_iff.2 hb),hn.2.2⟩,h.below⟩
theorem Env.more{w x y:World}{bs cs:List Bk}(h:Env w bs [] [] x)(k:Env x cs [] [] y):Env w (bs++cs) [] [] y:=by
 have h':=h.call k.below;refine⟨fun b hb=>?_,fun b hb=>?_,?_,(fun r hr=>by cases hr),(fun r hr=>by cases hr),List.Pairwise.nil,(fun u hu=>by cases hu),h'.below⟩
 ·rcases List.mem_append.1 hb with hb | hb
  ·exact h'.at_ b hb
  ·exact k.at_ b hb
 ·rcases List.mem_append.1 hb with hb | hb
  ·exact h'.lo b hb
  ·exact Nat.le_trans h.below.size (k.lo b hb)
 ·rw[List.map_append,List.nodup_append]
  refine⟨h'.nod,k.nod,fun a ha b hb e=>?_⟩;obtain⟨u,hu,rfl⟩:=List.mem_map.1 ha;obtain⟨v,hv,rfl⟩:=List.mem_map.1 hb;have h1:=(h.at_ u hu).inside;have h2:=k.lo v hv;omega
theorem put_all{w:World}{g:Nat}{t:TypeId}{old ys:List Value}(hW:Zf w g t old.toArray)(hl:ys.length=old.length):Put w (w.setCells g 0 ys) g t ys:=
 ⟨by have e:=Zf.setCells (g:=g) (t:=t) [] ys old [] w hl (by simpa using hW);simpa using e,Zq.setCells (S:=fun k=>k=g) rfl ys 0 (Zq.refl _ w)⟩
section
variable {P:Program} {ops:Array Oper} {Q:Exit→Act→World→Prop}
theorem Zie{o:Oper}{a:Act}{x:World}{K:Act→World→Prop}{t:TypeId}{z:List Value}(ho:o.op=.alloc t)(hz:(P.info? t).map (fun i=>i.zero.map Value.cells)=some (some z.toArray))
  (hk:K (a.put o.dst (.pointer (some ⟨x.heap.size,0,none⟩))) (x.alloc (.cells z.toArray t))):Oper.wp P o a x K Q:=by
 obtain⟨i,hi,hzz⟩:=Option.map_eq_some_iff.1 hz;obtain⟨v,hz1,hz2⟩:=Option.map_eq_some_iff.1 hzz
 have hrun:(execOp a.eval o).run P x=.ok (.value (.pointer (some ⟨x.heap.size,0,none⟩))) (x.alloc (.cells z.toArray t)):=by
  unfold execOp;rw[ho];simp[Instr.alloc,zeroValue,typeInfo,hi,hz1,newVar,newRow,hz2,Sem.run_bind,Sem.run_pure,run_newObj_alloc]
 unfold Oper.wp;simp only[hrun,Oper.upon];exact hk
theorem tail4{x x':World}{l:Array Bool}{iA iB iC iD:Nat}{oA oB oC oD:Oper}{a0:Act}{T:TypeId}{z xs ys:List Value}{a1 a2 v1 v2:Nat}
  (r0:Region.ready .any ops l=[iA,iB])(rA:Region.ready .any ops (l.setIfInBounds iA true)=[iB])(rB:Region.ready .any ops (l.setIfInBounds iB true)=[iA])
  (rAB:Region.ready .any ops ((l.setIfInBounds iA true).setIfInBounds iB true)=[iC])(rBA:Region.ready .any ops ((l.setIfInBounds iB true).setIfInBounds iA true)=[iC])
  (rABC:Region.ready .any ops (((l.setIfInBounds iA true).setIfInBounds iB true).setIfInBounds iC true)=[iD])(rBAC:Region.ready .any ops (((l.setIfInBounds iB true).setIfInBounds iA true).setIfInBounds iC true)=[iD])
  (f1:Region.ready .any ops ((((l.setIfInBounds iA true).setIfInBounds iB true).setIfInBounds iC true).setIfInBounds iD true)=[])(f3:Region.ready .any ops ((((l.setIfInBounds iB true).setIfInBounds iA true).setIfInBounds iC true).setIfInBounds iD true)=[])
  (hA:ops[iA]?=some oA)(hB:ops[iB]?=some oB)(hC:ops[iC]?=some oC)(hD:ops[iD]?=some oD)
  (gA:oA.guard=none)(gB:oB.guard=none)(gC:oC.guard=none)(gD:oD.guard=none)
  (pA:oA.op=.alloc T)(pB:oB.op=.alloc T)(pC:oC.op=.store T (.tmp a1) (.tmp v1))(pD:oD.op=.store T (.tmp a2) (.tmp v2))
  (dA:oA.dst=some a1)(dB:oB.dst=some a2)(dC:oC.dst=none)(dD:oD.dst=none)(hne:a1≠a2)
  (hz:(P.info? T).map (fun i=>i.zero.map Value.cells)=some (some z.toArray))(hs:(P.info? T).map (·.size)=some z.length)
  (lx:xs.length=z.length)(ly:ys.length=z.length)(ox:∀ v ∈ xs,v.oneCell'=true)(oy:∀ v ∈ ys,v.oneCell'=true)
  (eAB:∀ p q,((a0.put (some a1) p).put (some a2) q).eval (.tmp a1)=p∧((a0.put (some a1) p).put (some a2) q).eval (.tmp v1)=.agg xs.toArray∧((a0.put (some a1) p).put (some a2) q).eval (.tmp a2)=q∧((a0.put (some a1) p).put (some a2) q).eval (.tmp v2)=.agg ys.toArray)
  (hE:Env x [] [] [] x')
  (h:∀ y p q,Env x [(p,T,xs),(q,T,ys)] [] [] y→Q .normal ((a0.put (some a1) (.pointer (some ⟨p,0,none⟩))).put (some a2) (.pointer (some ⟨q,0,none⟩))) y) :
  wpAnyH P .any ops Q (fun y=>Below x.heap.size x y) 4 l a0 x':=by
 have hcm:∀ p q,(a0.put (some a2) q).put (some a1) p=(a0.put (some a1) p).put (some a2) q:=fun p q=>Act.put_comm a0 _ _ (by intro d hd;injection hd with hd;subst hd;intro c;injection c with c;exact hne c)
 have st:∀{y:World}{bs:List Bk}(o:Oper)(a:Act)(av vv:Nat)(g:Nat)(old new:List Value)(K:Act→World→Prop)(i:Nat),Env x bs [] [] y→o.op=.store T (.tmp av) (.tmp vv)→o.dst=none→bs[i]?=some (g,T,old)→old.length=z.length→new.length=z.length→(∀ v ∈ new,v.oneCell'=true) →
   a.eval (.tmp av)=.pointer (some ⟨g,0,none⟩)→a.eval (.tmp vv)=.agg new.toArray→(∀ y',Env x (bs.set i (g,T,new)) [] [] y'→K a y')→Oper.wp P o a y K Q:=fun{y bs} o a av vv g old new K i hy ho hd hi lo ln on e1 e2 hk=>by
  have hW:=hy.get i hi;refine wp_store_mid T _ _ ho g 0 new.toArray e1 e2 ?_ (by rw[hs,List.size_toArray,ln]) (all_oneCell_toArray on) ?_
  ·have:=Zf.there (a:=[]) (b:=old) (c:=[]) (by simpa using hW)
   rw[List.size_toArray,ln,←lo];exact this
  ·rw[hd]
   exact hk _ (hy.put i hi (put_all hW (by rw[ln,lo])))
 refine wpAnyH_ready r0 (by simp) (AllReadyH.cons hA (fun K hK=>?_) (AllReadyH.cons hB (fun K hK=>?_) AllReadyH.nil))
 ·rw[if_pos (Yu gA)]
  refine Zie pA hz ?_;rw[dA];have E1:=hE.box T z;refine hK.out _ _ E1.below fun _=>?_
  generalize x'.heap.size=p at *;generalize x'.alloc (.cells z.toArray T)=y1 at *;refine wpAnyH_ready rA (by simp) (AllReadyH.cons hB (fun K hK=>?_) AllReadyH.nil);rw[if_pos (Yu gB)];refine Zie pB hz ?_;rw[dB];have E2:=E1.box T z;refine hK.out _ _ E2.below fun _=>?_
  generalize y1.heap.size=q at *;generalize y1.alloc (.cells z.toArray T)=y2 at *;obtain⟨e1,e2,e3,e4⟩:=eAB (.pointer (some ⟨p,0,none⟩)) (.pointer (some ⟨q,0,none⟩));refine wpAnyH_ready rAB (by simp) (AllReadyH.cons hC (fun K hK=>?_) AllReadyH.nil);rw[if_pos (Yu gC)];refine st oC _ a1 v1 p z xs K 0 E2 pC dC rfl rfl lx ox e1 e2 fun y3 E3=>hK.out _ _ E3.below fun _=>?_
  refine wpAnyH_ready rABC (by simp) (AllReadyH.cons hD (fun K hK=>?_) AllReadyH.nil);rw[if_pos (Yu gD)];exact st oD _ a2 v2 q z ys K 1 E3 pD dD rfl rfl ly oy e3 e4 fun y4 E4=>hK.out _ _ E4.below fun _=>wpAnyH_done f1 (h y4 p q E4) _
 ·rw[if_pos (Yu gB)]
  refine Zie pB hz ?_;rw[dB];have E1:=hE.box T z;refine hK.out _ _ E1.below fun _=>?_
  generalize x'.heap.size=q at *;generalize x'.alloc (.cells z.toArray T)=y1 at *;refine wpAnyH_ready rB (by simp) (AllReadyH.cons hA (fun K hK=>?_) AllReadyH.nil);rw[if_pos (Yu gA)];refine Zie pA hz ?_;rw[dA];have E2:=E1.box T z;refine hK.out _ _ E2.below fun _=>?_
  generalize y1.heap.size=p at *;generalize y1.alloc (.cells z.toArray T)=y2 at *;rw[hcm];obtain⟨e1,e2,e3,e4⟩:=eAB (.pointer (some ⟨p,0,none⟩)) (.pointer (some ⟨q,0,none⟩));refine wpAnyH_ready rBA (by simp) (AllReadyH.cons hC (fun K hK=>?_) AllReadyH.nil);rw[if_pos (Yu gC)];refine st oC _ a1 v1 p z xs K 1 E2 pC dC rfl rfl lx ox e1 e2 fun y3 E3=>hK.out _ _ E3.below fun _=>?_
  refine wpAnyH_ready rBAC (by simp) (AllReadyH.cons hD (fun K hK=>?_) AllReadyH.nil);rw[if_pos (Yu gD)];exact st oD _ a2 v2 q z ys K 0 E3 pD dD rfl rfl ly oy e3 e4 fun y4 E4=>hK.out _ _ E4.below fun _=>wpAnyH_done f3 (h y4 p q (E4.permB (List.Perm.swap _ _ _))) _
theorem Zcm{a:Act}{w:World}(h:Q .normal a w):NoPanic Q .normal a w:=h
theorem Zkm{l:List Value}{d:List Deferred}{i j:Nat}{u v:Value}{w:World}(h:Q .normal ⟨((l.set i u).set j v).toArray,d⟩ w):Q .normal (((⟨l.toArray,d⟩:Act).put (some i) u).put (some j) v) w:=by
 simpa[Act.put]using h
end
theorem sSel(s:Se)(w:World)(N M:Nat→Prop)(vs us:List Value)(h1:Zn N w s.ds vs)(h2:Zn M w s.ds us) :
  Calls Tryz.prog 93 #[.agg vs.toArray,.agg us.toArray] w fun e w'=>e=.returned (.bool true)∧Below w.heap.size w w':=by
 obtain⟨k,sd,wh,ln,fs,pk⟩:=s;obtain⟨_,rfl,_,rfl,_,rfl,_,rfl,A,c,xs,_,rfl,hn,hA,hx,_,rfl,rfl⟩:=h1;obtain⟨_,rfl,_,rfl,_,rfl,_,rfl,B,d,ys,_,rfl,_,hB,hy,_,rfl,rfl⟩:=h2;dsimp only at *;have T0:=Hh (Env.start w);have HA:=Hh (And.intro hA hx);have HB:=Hh (And.intro hB hy);clear hA hx hB hy;obtain⟨n,hn0⟩:∃ n,n=fs.length:=⟨_,rfl⟩
 rw[←hn0]at hn ⊢;have HN:=Hh hn0;clear hn0;go_enter Tryz.func93,Tryz.ntmps93;go_wp2_with(first
 |((with_reducible refine Zd 2 ?_);refine Zo T0.out 49 _ ([.int .i64 k,.int .i64 sd,.int .i64 wh,.int .i64 ln,.slice A n c,.int .i64 pk]) rfl rfl rfl ?_;intro w1 g0 t1
   have T1:Hid (Env w [(g0,49,[.int .i64 k,.int .i64 sd,.int .i64 wh,.int .i64 ln,.slice A n c,.int .i64 pk])] [] [] w1):=Hh t1;clear t1)
 |((with_reducible refine Zd 3 ?_);refine Zo T1.out 49 _ ([.int .i64 k,.int .i64 sd,.int .i64 wh,.int .i64 ln,.slice B n d,.int .i64 pk]) rfl rfl rfl ?_;intro w2 g1 t2
   have T2:Hid (Env w [(g0,49,[.int .i64 k,.int .i64 sd,.int .i64 wh,.int .i64 ln,.slice A n c,.int .i64 pk]),(g1,49,[.int .i64 k,.int .i64 sd,.int .i64 wh,.int .i64 ln,.slice B n d,.int .i64 pk])] [] [] w2):=Hh t2;obtain⟨a0,a1,a2,a3,a4,a5⟩:=Xs (t2.get 0 rfl);obtain⟨b0,b1,b2,b3,b4,b5⟩:=Xs (t2.get 1 rfl);clear t2))
 go_loopw [5] (fun i wr=>∃ m q:Nat,i=.int .i64 m∧m≤n∧wr=w2.drewN q) (fun i _=>n - (intOf i).toNat)
 case atStart=>exact⟨0,0,rfl,by omega,rfl⟩
 case round=>
  obtain⟨m,q,rfl,hm,rfl⟩:=hrel;by_cases hml:m<n
  · have hk1:m<fs.length:=by rw[←HN.out];exact hml
    obtain⟨x,rfl,hx1,p0,p1,p2,p3⟩:=fil_at (w:=w2) (HA.out.1.keeps (Zq.of_below (S:=fun _=>False) T2.out.below) (fun k _ hn=>⟨id,hn⟩)) (HA.out.2.below T2.out.below) hk1;obtain⟨y,rfl,hy1,r0,r1,r2,r3⟩:=fil_at (w:=w2) (HB.out.1.keeps (Zq.of_below (S:=fun _=>False) T2.out.below) (fun k _ hn=>⟨id,hn⟩)) (HB.out.2.below T2.out.below) hk1;generalize fs[m]=t at *;have lk:(m:Int)<(n:Int):=by omega
    have lk0:(0:Int)≤(m:Int):=by omega
    have hkn:((m:Int)).toNat=m:=by omega
    clear hk1;go_wp2_with fail
    go_quiet (fail)
    go_wp2
    go_roundw
    case rel=>exact⟨m+1,_,by go_num,by omega,rfl⟩
    case measure=>simp[intOf];omega
  · go_wp2
    go_ret;exact⟨rfl,Zhx T2.out.below q⟩
theorem still_take{P:Program}{ops:Array Oper}{w:World}{Q:Act→Prop}{a:Act}{o:Oper}{rest:List Oper}{v:Value}(hy:YieldsIf P ops (fun y=>y=w) o v a)(h:wpStill P ops w Q rest (a.put o.dst v)):wpStill P ops w Q (o::rest) a:=by
 unfold wpStill;rcases hy with⟨hw,hv⟩ | ⟨hw,rfl⟩
 ·rw[if_pos hw]
  unfold Oper.still;rw[hv w rfl,Oper.stillUpon_value];exact h
 ·rw[if_neg (by rw[hw];decide)]
  exact h
def exsDs:List Ex→Ds
 |[]=>.nil
 |x::r=>x.ds.app (exsDs r)
theorem Ds.app_nilS:∀ x:Ds,x.app .nil=x
 |.nil=>rfl
 |.int n r=>by rw[Ds.app,Ds.app_nilS r]
 |.str s r=>by rw[Ds.app,Ds.app_nilS r]
 |.row n cs r=>by rw[Ds.app,Ds.app_nilS r]
def Ex.kd:Ex→Int
 |.leaf k _ _ _ _ _=>k
 |.bin _ _ _=>7
def Ex.nm:Ex→Int
 |.leaf _ n _ _ _ _=>n
 |.bin op _ _=>op
def Ex.se:Ex→Se
 |.leaf _ _ s _ _ _=>s
 |.bin _ _ _=>zSe
def Ex.sd:Ex→Int
 |.leaf _ _ _ d _ _=>d
 |.bin _ _ _=>0
def Ex.tk:Ex→Int
 |.leaf _ _ _ _ t _=>t
 |.bin _ _ _=>0
def Ex.tl:Ex→Int
 |.leaf _ _ _ _ _ t=>t
 |.bin _ _ _=>0
def Ex.ks:Ex→List Ex
 |.leaf _ _ _ _ _ _=>[]
 |.bin _ l r=>[l,r]
theorem Ex.ds_parts(x:Ex):x.ds=.int x.kd (.int x.nm (x.se.ds.app (.int x.sd (.int x.tk (.int x.tl (.row x.ks.length (exsDs x.ks) .nil)))))):=by
 cases x with
 |leaf k n s d t l=>rfl
 |bin op l r=>show Ds.int 7 (.int op (zSe.ds.app (.int 0 (.int 0 (.int 0 (.row 2 (l.ds.app r.ds) .nil))))))=Ds.int 7 (.int op (zSe.ds.app (.int 0 (.int 0 (.int 0 (.row 2 (l.ds.app (r.ds.app .nil)) .nil))))));rw[Ds.app_nilS]
theorem exs_at{N:Nat→Prop}{w:World}:∀{l:List Ex}{xs:List Value},Zn N w (exsDs l) xs→∀(k:Nat)(hk:k<l.length),∃ pre ys post,xs=pre++ys++post∧pre.length=k*12∧Zn N w (l[k]'hk).ds ys:=by
 intro l;induction l with
 |nil=>intro xs _ k hk;cases hk
 |cons f l ih=>
  intro xs h k hk;obtain⟨a,b,rfl,ha,hb⟩:=Zn.split (x:=f.ds) h;cases k with
  |zero=>exact⟨[],a,b,rfl,by simp,ha⟩
  |succ k=>
   obtain⟨pre,ys,post,rfl,hp,hy⟩:=ih hb k (by simpa using hk);refine⟨a++pre,ys,post,by simp,?_,hy⟩;rw[List.length_append,ha.len,Ex.ds_len,hp];omega
theorem ex_at{N:Nat→Prop}{w:World}{A:Option Addr}{l:List Ex}{xs:List Value}(hw:Vw N w A xs)(hd:Zn N w (exsDs l) xs){k:Nat}(hk:k<l.length) :
  ∃ g ys,A=some ⟨g,0,none⟩∧g<w.heap.size∧w.rangeAt g (k*12) ys∧Zn N w (l[k]'hk).ds ys:=by
 obtain⟨pre,ys,post,rfl,hp,hy⟩:=exs_at hd k hk;have hl:ys.length=12:=by rw[hy.len,Ex.ds_len]
 obtain⟨g,hA,hg,hc⟩:=hw.reads (by simp;omega);refine⟨g,ys,hA,hg,fun j v hv=>?_,hy⟩;have hj:j<ys.length:=by rcases Nat.lt_or_ge j ys.length with h | h;exact h;rw[List.getElem?_eq_none h]at hv;cases hv
 have:=hc (k*12+j) (by simp;omega);rw[this,←hp,List.append_assoc,List.getElem?_append_right (by omega),Nat.add_sub_cancel_left,List.getElem?_append_left hj,hv]
theorem sixS:∀(vs:List Value),vs.length=6→∃ a b c d e f,vs=[a,b,c,d,e,f]
 |[a,b,c,d,e,f],_=>⟨a,b,c,d,e,f,rfl⟩
def SExOK(x:Ex):Prop:=∀(w:World)(N M:Nat→Prop)(vs us:List Value),Zn N w x.ds vs→Zn M w x.ds us →
 Calls Tryz.prog 94 #[.agg vs.toArray,.agg us.toArray] w fun e w'=>e=.returned (.bool true)∧Below w.heap.size w w'
theorem sExpr1(x:Ex)(ih:∀(k:Nat)(hk:k<x.ks.length),SExOK (x.ks[k]'hk)):SExOK x:=by
 intro w N M vs us h1 h2;rw[Ex.ds_parts]at h1 h2;obtain⟨_,rfl,_,rfl,h1⟩:=h1;obtain⟨sv,_,rfl,hsv,h1⟩:=Zn.split (x:=x.se.ds) h1;obtain⟨_,rfl,_,rfl,_,rfl,A,c,xs,_,rfl,hn,hA,hx,rfl⟩:=h1;obtain⟨_,rfl,_,rfl,h2⟩:=h2;obtain⟨tv,_,rfl,htv,h2⟩:=Zn.split (x:=x.se.ds) h2;obtain⟨_,rfl,_,rfl,_,rfl,B,d,ys,_,rfl,_,hB,hy,rfl⟩:=h2;have hl1:sv.length=6:=by rw[hsv.len,Se.ds_len]
 have hl2:tv.length=6:=by rw[htv.len,Se.ds_len]
 obtain⟨s0,s1,s2,s3,s4,s5,rfl⟩:=sixS sv hl1;obtain⟨u0,u1,u2,u3,u4,u5,rfl⟩:=sixS tv hl2;clear hl1 hl2;have T0:=Hh (Env.start w);have HA:=Hh (And.intro hA hx);have HB:=Hh (And.intro hB hy);have HS:=Hh (And.intro hsv htv);have HI:=Hh ih;clear hA hx hB hy hsv htv ih;generalize x.kd=kd at *;generalize x.nm=nn at *;generalize x.se=se at *;generalize x.sd=sd at *;generalize x.tk=tk at *;generalize x.tl=tl at *;generalize x.ks=ks at *;obtain⟨n,hn0⟩:∃ n,n=ks.length:=⟨_,rfl⟩
 rw[←hn0]at hn ⊢;have HN:=Hh hn0;clear hn0;have hsel:∀ y,Below w.heap.size w y→Calls Tryz.prog 93 #[.agg #[s0,s1,s2,s3,s4,s5],.agg #[u0,u1,u2,u3,u4,u5]] y fun e w'=>e=.returned (.bool true)∧Below y.heap.size y w':=fun y hb=>sSel se y N M _ _ (HS.out.1.below hb) (HS.out.2.below hb)
 show Calls _ _ #[.agg #[.int .i64 kd,.int .i64 nn,s0,s1,s2,s3,s4,s5,.int .i64 sd,.int .i64 tk,.int .i64 tl,.slice A n c],.agg #[.int .i64 kd,.int .i64 nn,u0,u1,u2,u3,u4,u5,.int .i64 sd,.int .i64 tk,.int .i64 tl,.slice B n d]] _ _;go_enter Tryz.func94,Tryz.ntmps94;go_wp2_with(first
 |((with_reducible refine Zd 2 ?_);refine Zo T0.out 54 _ ([.int .i64 kd,.int .i64 nn,s0,s1,s2,s3,s4,s5,.int .i64 sd,.int .i64 tk,.int .i64 tl,.slice A n c]) rfl rfl rfl ?_;intro w1 g0 t1
   have T1:Hid (Env w [(g0,54,[.int .i64 kd,.int .i64 nn,s0,s1,s2,s3,s4,s5,.int .i64 sd,.int .i64 tk,.int .i64 tl,.slice A n c])] [] [] w1):=Hh t1;clear t1)
 |((with_reducible refine Zd 3 ?_);refine Zo T1.out 54 _ ([.int .i64 kd,.int .i64 nn,u0,u1,u2,u3,u4,u5,.int .i64 sd,.int .i64 tk,.int .i64 tl,.slice B n d]) rfl rfl rfl ?_;intro w2 g1 t2
   have T2:Hid (Env w [(g0,54,[.int .i64 kd,.int .i64 nn,s0,s1,s2,s3,s4,s5,.int .i64 sd,.int .i64 tk,.int .i64 tl,.slice A n c]),(g1,54,[.int .i64 kd,.int .i64 nn,u0,u1,u2,u3,u4,u5,.int .i64 sd,.int .i64 tk,.int .i64 tl,.slice B n d])] [] [] w2):=Hh t2;obtain⟨a0,a1,a2,a3,a4,a5,a6,a7,a8,a9,a10,a11,_⟩:=Zfb (t2.get 0 rfl);obtain⟨b0,b1,b2,b3,b4,b5,b6,b7,b8,b9,b10,b11,_⟩:=Zfb (t2.get 1 rfl);clear t2)
 |(go_at_call 93;refine(hsel _ T2.out.below).mono ?_;rintro e w3 ⟨rfl,b3⟩
   have T3:Hid (Env w [(g0,54,[.int .i64 kd,.int .i64 nn,s0,s1,s2,s3,s4,s5,.int .i64 sd,.int .i64 tk,.int .i64 tl,.slice A n c]),(g1,54,[.int .i64 kd,.int .i64 nn,u0,u1,u2,u3,u4,u5,.int .i64 sd,.int .i64 tk,.int .i64 tl,.slice B n d])] [] [] w3):=Hh (T2.out.call b3);have a11':=T3.out.cell 0 11 rfl rfl;have b11':=T3.out.cell 1 11 rfl rfl;clear b3))
 go_loopw [5] (fun i wr=>∃ m:Nat,i=.int .i64 m∧m≤n∧Env w [(g0,54,[.int .i64 kd,.int .i64 nn,s0,s1,s2,s3,s4,s5,.int .i64 sd,.int .i64 tk,.int .i64 tl,.slice A n c]),(g1,54,[.int .i64 kd,.int .i64 nn,u0,u1,u2,u3,u4,u5,.int .i64 sd,.int .i64 tk,.int .i64 tl,.slice B n d])] [] [] wr) (fun i _=>n - (intOf i).toNat)
 case atStart=>exact⟨0,rfl,by omega,T3.out⟩
 case round=>
  obtain⟨m,rfl,hm,hE⟩:=hrel;by_cases hml:m<n
  · have hk1:m<ks.length:=by rw[←HN.out];exact hml
    obtain⟨x,xv,rfl,hx1,xr,dx⟩:=ex_at (HA.out.1.keeps (Zq.of_below (S:=fun _=>False) hE.below) (fun k _ hn=>⟨id,hn⟩)) (HA.out.2.below hE.below) hk1;obtain⟨y,yv,rfl,hy1,yr,dy⟩:=ex_at (HB.out.1.keeps (Zq.of_below (S:=fun _=>False) hE.below) (fun k _ hn=>⟨id,hn⟩)) (HB.out.2.below hE.below) hk1;have hi:=HI.out m hk1;generalize ks[m]=t at *;have hcall:∀ z,Below wr.heap.size wr z→Calls Tryz.prog 94 #[.agg xv.toArray,.agg yv.toArray] z fun e w'=>e=.returned (.bool true)∧Below z.heap.size z w':=fun z hb=>hi z N M _ _ (dx.below hb) (dy.below hb)
    have HX:=Hh (And.intro xr yr);have HL:=Hh (And.intro (dx.len.trans (Ex.ds_len t)) (dy.len.trans (Ex.ds_len t)));have a11:=hE.cell 0 11 rfl rfl;have b11:=hE.cell 1 11 rfl rfl;have T4:=Hh hE;have lk:(m:Int)<(n:Int):=by omega
    have lk0:(0:Int)≤(m:Int):=by omega
    have hkn:((m:Int)).toNat=m:=by omega
    have hb0:=(show Below wr.heap.size wr wr.drew from Env.below (Env.drew (Env.start wr)))
    clear hk1 hi xr yr dx dy hE;go_wp2_with fail
    go_still_tail 10,(by kernel_rfl)
    refine still_take (Ji rfl rfl rfl (ys:=xv) (fun y e=>by subst e;exact HX.out.1) Yr (Yy HL.out.1)) ?_;repeat still_step
    refine still_take (Ji rfl rfl rfl (ys:=yv) (fun y e=>by subst e;exact HX.out.2) Yr (Yy HL.out.2)) ?_;refine wpStill_nil ?_;change wpList _ _ _ _ _ wr.drew
    go_wp2_with(first
 |(go_at_call 94;refine(hcall _ hb0).mono ?_;rintro e w5 ⟨rfl,b5⟩
   have T6:=Hh (T4.out.drew.call b5)
   clear b5))
    go_roundw
    case rel=>exact⟨m+1,by go_num,by omega,T6.out⟩
    case measure=>simp[intOf];omega
  · have a11:=hE.cell 0 11 rfl rfl
    go_wp2
    go_ret;exact⟨rfl,hE.below⟩
theorem sExpr:∀ x:Ex,SExOK x:=by
 intro x;induction x with
 |leaf k n s d t l=>exact sExpr1 _ fun k hk=>absurd hk (Nat.not_lt_zero k)
 |bin op l r ihl ihr=>
  refine sExpr1 _ fun k hk=>?_
  cases k with
  |zero=>exact ihl
  |succ k=>cases k with
   |zero=>exact ihr
   |succ k=>exact absurd hk (by show ¬ k+2<2;omega)
theorem Zbc.len{pl:Bool}:∀(x y:Acs),Zbc pl x y→x.len=y.len:=by
 intro x;induction x with
 |nil=>intro y h;cases y with
  |nil=>rfl
  |cons h t e r=>exact h.elim
 |cons h t e r _ _ ih=>intro y hs;cases y with
  |nil=>exact hs.elim
  |cons h' t' e' r'=>show r.len+1=r'.len+1;rw[ih r' hs.2.2.2]
theorem Zbc.at_{pl:Bool}:∀(x y:Acs),Zbc pl x y→∀(k:Nat)(u v:AH×Acs×Acs),x.at? k=some u→y.at? k=some v→AHSim pl u.1 v.1∧Zbc pl u.2.1 v.2.1∧Zbc pl u.2.2 v.2.2:=by
 intro x;induction x with
 |nil=>intro y h k u v hu;cases hu
 |cons h t e r _ _ ih=>intro y hs k u v hu hv;cases y with
  |nil=>exact hs.elim
  |cons h' t' e' r'=>cases k with
   |zero=>cases hu;cases hv;exact⟨hs.1,hs.2.1,hs.2.2.1⟩
   |succ k=>exact ih r' hs.2.2.2 k u v hu hv
theorem qSigned(w:World)(r K:Nat)(L:List TokV)(n a d:Nat)(hn:n=L.length)(h:Uw w r K L)(ha:a<L.length) :
  Calls Tryz.prog 52 #[qA r K n a d] w fun e w'=>e=.returned (.tuple #[qA r K n (Zch L a) d,.int .i64 (Zhc L a),Zr (Zak L a)])∧Below w.heap.size w w':=by
 have T0:=Hh (Tri.start w 64 #[.slice (some ⟨r,0,none⟩) n K,.int .i64 (a:Int),.int .i64 (d:Int)] 64 #[.slice none 0 0,.int .i64 0,.int .i64 0] 29 #[.int .i64 0,.int .i64 0,.int .i64 0]);have hrow:∀ x,Below w.heap.size w x→Uw x r K L:=fun x hb=>h.below hb
 have HR:=Hh hrow;have hi:=qIs _ r K L n a d Zko hn (hrow _ T0.out.below) ha;have hOn:=fun w h=>qOn w r K L n a d hn h ha
 have hIn:=fun w h=>qInt w r K L n a d hn h ha
 have hIn2:=fun w h=>qInt w r K L n (onA L a) d hn h (h.ends.on ha)
 have hnum:=h.ends.num (onA L a);clear hn h ha hrow;unfold Zch Zhc Zak;unfold Zko at hi ⊢;unfold qA at hi hOn hIn hIn2 ⊢;cases hb:isT (Zv L a) ⟨#[45]⟩
 ·rw[hb]at hi
  rw[if_neg (by decide),if_neg (by decide),if_neg (by decide)];generalize Xz L a 2=f at *;generalize Zhf L a=m at *;generalize Vj L a 2=b at *;have HI:=Hh hIn;clear hb hOn hIn hIn2;obtain⟨f1,f2,f3⟩:=f;go_enter Tryz.func52,Tryz.ntmps52;go_wp2_with(first
 |(go_at_call 47;refine hi.mono ?_;rintro e w2 ⟨rfl,b2⟩;have T2:=Hh (T0.out.next b2);obtain⟨c0,c1,c2,y0,y1,y2⟩:=Zy T2.out.k0;clear b2)
 |(go_at_call 50;refine(HI.out _ (HR.out _ T2.out.below)).mono ?_;rintro e w3 ⟨rfl,b3⟩;have T3:=Hh (T2.out.next b3);obtain⟨d0,d1,d2,e0,e1,e2⟩:=Zy T3.out.k1;obtain⟨g0,g1,g2,z0,z1,z2⟩:=Zy T3.out.k2;have hz:=T3.out.k2.inside;clear b3;simp only[Zr]))
  obtain⟨hS1,hS2,hB⟩:=Zea T3.out (.slice (some ⟨r,0,none⟩) n K) (.int .i64 (b:Int)) (.int .i64 (d:Int)) (.int .i64 f1) (.int .i64 (f2:Int)) (.int .i64 (f3:Int));have hF:=Zy hS1;have hG:=Zy hS2;refine bodyPost_ret (v:=.tuple #[qA r K n b d,.int .i64 m,Zr (f1,f2,f3)]) (by simp[results,Tryz.results52,go_sem,hF,hG,Zr,qA]) rfl ⟨rfl,hB⟩
 ·rw[hb]at hi
  rw[if_pos rfl,if_pos rfl,if_pos rfl];clear hb hIn;generalize onA L a=b at *;have hk:Vj L b 2=if(Zv L b).k=2 then onA L b else b:=rfl
  have hv:Zhf L b=if(Zv L b).k=2 then(Zv L b).n else 0:=rfl
  have hf:Xz L b 2=if(Zv L b).k=2 then okF else wrF (Zv L b):=rfl
  rw[hf];by_cases h2:(Zv L b).k=2
  · rw[if_pos h2]at hk hv hf ⊢
    rw[if_pos h2,if_pos h2];rw[hk,hv,hf]at hIn2;clear hk hv hf h2;generalize(Zv L b).n=m at *;generalize onA L b=b2 at *;obtain⟨m0,m9⟩:=hnum;have HI:=Hh hIn2;have HO:=Hh hOn;clear hOn hIn2;go_enter Tryz.func52,Tryz.ntmps52;go_wp2_with(first
 |(go_at_call 47;refine hi.mono ?_;rintro e w2 ⟨rfl,b2⟩;have T2:=Hh (T0.out.next b2);obtain⟨c0,c1,c2,y0,y1,y2⟩:=Zy T2.out.k0;clear b2)
 |(go_at_call 48;refine(HO.out _ (HR.out _ T2.out.below)).mono ?_;rintro e w3 ⟨rfl,b3⟩;have T3:=Hh (T2.out.next b3);clear b3)
 |(go_at_call 50;refine(HI.out _ (HR.out _ T3.out.below)).mono ?_;rintro e w4 ⟨rfl,b4⟩;have T4:=Hh (T3.out.next b4);obtain⟨d0,d1,d2,e0,e1,e2⟩:=Zy T4.out.k1;obtain⟨g0,g1,g2,z0,z1,z2⟩:=Zy T4.out.k2;have hz:=T4.out.k2.inside;have hz1:=T4.out.k1.inside;have hz0:=T4.out.k0.inside;clear b4;simp only[Zr,okF]))
    go_region
    all_goals
     go_wp2
     obtain⟨hS1,hS2,hB⟩:=Zea T4.out (.slice (some ⟨r,0,none⟩) n K) (.int .i64 (b2:Int)) (.int .i64 (d:Int)) (.int .i64 0) (.int .i64 0) (.int .i64 0);have hF:=Zy (((hS1.alloc (.cells #[.slice (some ⟨r,0,none⟩) n K,.int .i64 (b2:Int),.int .i64 (d:Int)] 64)).alloc (.cells #[.int .i64 0,.int .i64 0,.int .i64 0] 29)).drew);have hG:=Zy (((hS2.alloc (.cells #[.slice (some ⟨r,0,none⟩) n K,.int .i64 (b2:Int),.int .i64 (d:Int)] 64)).alloc (.cells #[.int .i64 0,.int .i64 0,.int .i64 0] 29)).drew);refine bodyPost_ret (v:=.tuple #[qA r K n b2 d,.int .i64 (-m),Zr okF]) (by simp[results,Tryz.results52,go_sem,hF,hG,Zr,okF,qA]) rfl ⟨rfl,?_⟩;exact Wa ((hB.alloc hB.size _).alloc (by have:=hB.size;simp at this ⊢;omega) _)
  · rw[if_neg h2]at hk hv hf ⊢
    rw[if_neg h2,if_neg h2];rw[hk,hv,hf]at hIn2;have hne:=Zfn (Zv L b);clear hk hv hf h2;generalize wrF (Zv L b)=f at *;obtain⟨f1,f2,f3⟩:=f;have q0:(f1 != 0)=true:=by rw[bne_iff_ne];exact hne
    have HI:=Hh hIn2;have HO:=Hh hOn;clear hOn hIn2 hnum hne;go_enter Tryz.func52,Tryz.ntmps52;go_wp2_with(first
 |(go_at_call 47;refine hi.mono ?_;rintro e w2 ⟨rfl,b2⟩;have T2:=Hh (T0.out.next b2);obtain⟨c0,c1,c2,y0,y1,y2⟩:=Zy T2.out.k0;clear b2)
 |(go_at_call 48;refine(HO.out _ (HR.out _ T2.out.below)).mono ?_;rintro e w3 ⟨rfl,b3⟩;have T3:=Hh (T2.out.next b3);clear b3)
 |(go_at_call 50;refine(HI.out _ (HR.out _ T3.out.below)).mono ?_;rintro e w4 ⟨rfl,b4⟩;have T4:=Hh (T3.out.next b4);obtain⟨c0,c1,c2,y0,y1,y2⟩:=Zy T4.out.k0;obtain⟨d0,d1,d2,e0,e1,e2⟩:=Zy T4.out.k1;obtain⟨g0,g1,g2,z0,z1,z2⟩:=Zy T4.out.k2;have hz:=T4.out.k2.inside;have hz1:=T4.out.k1.inside;have hz0:=T4.out.k0.inside;clear b4;simp only[Zr]))
    go_region
    all_goals
     go_wp2
     obtain⟨hS1,hS2,hB⟩:=Zea T4.out (.slice (some ⟨r,0,none⟩) n K) (.int .i64 (a:Int)) (.int .i64 (d:Int)) (.int .i64 f1) (.int .i64 (f2:Int)) (.int .i64 (f3:Int));have hF:=Zy (((hS1.alloc (.cells #[.slice (some ⟨r,0,none⟩) n K,.int .i64 (b:Int),.int .i64 (d:Int)] 64)).alloc (.cells #[.int .i64 f1,.int .i64 (f2:Int),.int .i64 (f3:Int)] 29)).drew);have hG:=Zy (((hS2.alloc (.cells #[.slice (some ⟨r,0,none⟩) n K,.int .i64 (b:Int),.int .i64 (d:Int)] 64)).alloc (.cells #[.int .i64 f1,.int .i64 (f2:Int),.int .i64 (f3:Int)] 29)).drew);refine bodyPost_ret (v:=.tuple #[qA r K n a d,.int .i64 0,Zr (f1,f2,f3)]) (by simp[results,Tryz.results52,go_sem,hF,hG,Zr,okF,qA]) rfl ⟨rfl,?_⟩;exact Wa ((hB.alloc hB.size _).alloc (by have:=hB.size;simp at this ⊢;omega) _)
theorem Tri.set2{w x:World}{t u v:TypeId}{cs ds es:Array Value}(h:Tri w t cs u ds v es x)(y:Value):Tri w t (cs.setIfInBounds 2 y) u ds v es (x.setCell ⟨w.heap.size,2,none⟩ y):=
 ⟨h.k0.write 2 y,h.k1.aside (by simp) y,h.k2.aside (by simp) y,h.below.setCell (Nat.le_refl _) y⟩
theorem duo_set{w y:World}{t u:TypeId}{a b c d e f:Value}(h:Two w t #[a,b,c] u #[d,e,f] y)(x0 x1 x2 y0 y1 y2:Value) :
  Zf ((((((y.setCell ⟨w.heap.size,0,none⟩ x0).setCell ⟨w.heap.size,1,none⟩ x1).setCell ⟨w.heap.size,2,none⟩ x2).setCell ⟨w.heap.size+1,0,none⟩ y0).setCell ⟨w.heap.size+1,1,none⟩ y1).setCell ⟨w.heap.size+1,2,none⟩ y2) w.heap.size t #[x0,x1,x2] ∧
  Zf ((((((y.setCell ⟨w.heap.size,0,none⟩ x0).setCell ⟨w.heap.size,1,none⟩ x1).setCell ⟨w.heap.size,2,none⟩ x2).setCell ⟨w.heap.size+1,0,none⟩ y0).setCell ⟨w.heap.size+1,1,none⟩ y1).setCell ⟨w.heap.size+1,2,none⟩ y2) (w.heap.size+1) u #[y0,y1,y2] ∧
  Below w.heap.size w ((((((y.setCell ⟨w.heap.size,0,none⟩ x0).setCell ⟨w.heap.size,1,none⟩ x1).setCell ⟨w.heap.size,2,none⟩ x2).setCell ⟨w.heap.size+1,0,none⟩ y0).setCell ⟨w.heap.size+1,1,none⟩ y1).setCell ⟨w.heap.size+1,2,none⟩ y2):=by
 have n1:w.heap.size≠w.heap.size+1:=by omega
 have n2:w.heap.size+1≠w.heap.size:=by omega
 exact⟨(((Zf.set3 h.k0 x0 x1 x2).aside n1 y0).aside n1 y1).aside n1 y2,Zf.set3 (((h.k1.aside n2 x0).aside n2 x1).aside n2 x2) y0 y1 y2,
  Below.set3 (Below.set3 h.below (by omega) _ _ _) (by omega) _ _ _⟩
theorem qDown(w:World)(r K:Nat)(L:List TokV)(n a d:Nat)(hn:n=L.length)(h:Uw w r K L)(ha:a<L.length)(hd:d≤8) :
  Calls Tryz.prog 175 #[qA r K n a d] w fun e w'=>e=.returned (.tuple #[qA r K n a (Zbm d),Zr (Us L a d)])∧Below w.heap.size w w':=by
 have T0:=Hh (Tri.start w 64 #[.slice (some ⟨r,0,none⟩) n K,.int .i64 (a:Int),.int .i64 (d:Int)] 64 #[.slice none 0 0,.int .i64 0,.int .i64 0] 29 #[.int .i64 0,.int .i64 0,.int .i64 0]);have hi:=Ziw _ r K L n a d hn (h.below T0.out.below) ha;clear hn h ha;unfold Zbm Us;unfold qA at hi ⊢;generalize Zv L a=v at *;by_cases h8:d=8
 ·subst h8
  rw[if_pos rfl,if_pos rfl];clear hd;go_enter Tryz.func175,Tryz.ntmps175;go_wp2_with(go_at_call 19;refine hi.mono ?_;rintro e w4 ⟨rfl,b2⟩;have T4:=Hh (T0.out.next b2);obtain⟨c0,c1,c2,y0,y1,y2⟩:=Zy T4.out.k0;obtain⟨d0,d1,d2,e0,e1,e2⟩:=Zy T4.out.k1;obtain⟨g0,g1,g2,z0,z1,z2⟩:=Zy T4.out.k2;have hz:=T4.out.k2.inside;have hz1:=T4.out.k1.inside;have hz0:=T4.out.k0.inside;clear b2;simp only[Vd])
  go_region
  all_goals
   go_wp2
   obtain⟨hS1,hS2,hB⟩:=Zea T4.out (.slice (some ⟨r,0,none⟩) n K) (.int .i64 (a:Int)) (.int .i64 8) (.int .i64 8) (.int .i64 (v.line:Int)) (.int .i64 (v.col:Int));have hF:=Zy ((hS1.alloc (.cells #[.int .i64 v.k,.string v.t,.int .i64 v.n,.int .i64 (v.line:Int),.int .i64 (v.col:Int)] 69)).drew);have hG:=Zy ((hS2.alloc (.cells #[.int .i64 v.k,.string v.t,.int .i64 v.n,.int .i64 (v.line:Int),.int .i64 (v.col:Int)] 69)).drew);refine bodyPost_ret (v:=.tuple #[qA r K n a 8,Zr (8,v.line,v.col)]) (by simp[results,Tryz.results175,go_sem,hF,hG,Zr,qA]) rfl ⟨rfl,?_⟩;exact Wa (hB.alloc hB.size _)
 ·rw[if_neg h8,if_neg h8]
  have l0:(d:Int)≤7:=by omega
  have e1:((d+1:Nat):Int)=(d:Int)+1:=by omega
  have E:=Hh e1;clear h8 hd e1;go_enter Tryz.func175,Tryz.ntmps175;go_wp2_with(go_at_call 19;refine hi.mono ?_;rintro e w4 ⟨rfl,b2⟩;have T4:=Hh (T0.out.next b2);obtain⟨c0,c1,c2,y0,y1,y2⟩:=Zy T4.out.k0;obtain⟨d0,d1,d2,e0,e1,e2⟩:=Zy T4.out.k1;obtain⟨g0,g1,g2,z0,z1,z2⟩:=Zy T4.out.k2;have hz:=T4.out.k2.inside;have hz1:=T4.out.k1.inside;have hz0:=T4.out.k0.inside;clear b2;simp only[Vd])
  obtain⟨hS1,hS2,hB⟩:=Zea (T4.out.set2 (.int .i64 ((d:Int)+1))) (.slice (some ⟨r,0,none⟩) n K) (.int .i64 (a:Int)) (.int .i64 ((d:Int)+1)) (.int .i64 0) (.int .i64 0) (.int .i64 0);have hF:=Zy (hS1.alloc (.cells #[.int .i64 v.k,.string v.t,.int .i64 v.n,.int .i64 (v.line:Int),.int .i64 (v.col:Int)] 69));have hG:=Zy (hS2.alloc (.cells #[.int .i64 v.k,.string v.t,.int .i64 v.n,.int .i64 (v.line:Int),.int .i64 (v.col:Int)] 69));refine bodyPost_ret (v:=.tuple #[qA r K n a (d+1),Zr okF]) (by simp[results,Tryz.results175,go_sem,hF,hG,Zr,okF,qA,E.out]) rfl ⟨rfl,?_⟩;exact hB.alloc hB.size _
def QNewPost(L:List TokV)(w:World)(e:Ending)(w':World):Prop:=
 ∃ r K,e=.returned (.tuple #[qA r K L.length 0 0,Zr okF])∧Uw w' r K L∧w.heap.size≤r∧Below w.heap.size w w'
theorem qNew_err(s:ByteArray)(w:World)(hs:s.size≤1099511627776)(E:Int)(l c:Nat)(hv:Zbk s=([],E,l,c)) :
  Calls Tryz.prog 46 #[.string s] w fun e w'=>∃ A k,e=.returned (.tuple #[.agg #[.slice A 0 k,.int .i64 0,.int .i64 0],Zr (E,l,c)])∧Below w.heap.size w w':=by
 have HV:=Hh hv;have T0:=Hh (Two.start w 64 #[.slice none 0 0,.int .i64 0,.int .i64 0] 29 #[.int .i64 0,.int .i64 0,.int .i64 0]);clear hv;go_enter Tryz.func46,Tryz.ntmps46;go_wp2_with(go_at_call 81;refine(rtScan s _ hs).mono ?_;rintro e w1 ⟨v,rfl,o1,b1⟩;rw[HV.out]at o1 ⊢;obtain⟨A1,c1,rfl,hl1,_⟩:=own5_reads o1;have T1:=Hh (T0.out.next b1);obtain⟨d0,d1,d2,e0,e1,e2⟩:=Zy T1.out.k0;obtain⟨g0,g1,g2,z0,z1,z2⟩:=Zy T1.out.k1;have hz:=T1.out.k1.inside;have hz0:=T1.out.k0.inside;clear o1 b1;simp only[Zr])
 go_region
 all_goals
  go_wp2
  obtain⟨hS1,hS2,hB⟩:=duo_set T1.out (.slice A1 0 c1) (.int .i64 0) (.int .i64 0) (.int .i64 E) (.int .i64 (l:Int)) (.int .i64 (c:Int));have hF:=Zy ((hS1.alloc (.cells #[.int .i64 E,.int .i64 (l:Int),.int .i64 (c:Int)] 29)).drew);have hG:=Zy ((hS2.alloc (.cells #[.int .i64 E,.int .i64 (l:Int),.int .i64 (c:Int)] 29)).drew);refine bodyPost_ret (v:=.tuple #[.agg #[.slice A1 0 c1,.int .i64 0,.int .i64 0],Zr (E,l,c)]) (by simp[results,Tryz.results46,go_sem,hF,hG,Zr]) rfl ⟨_,_,rfl,?_⟩;exact Wa (hB.alloc hB.size _)
theorem qNew_ok(s:ByteArray)(w:World)(hs:s.size≤1099511627776)(L:List TokV)(hv:Zbk s=(L,0,0,0))(hL:Zla L) :
  Calls Tryz.prog 46 #[.string s] w (QNewPost L w):=by
 have HV:=Hh hv;have T0:=Hh (Two.start w 64 #[.slice none 0 0,.int .i64 0,.int .i64 0] 29 #[.int .i64 0,.int .i64 0,.int .i64 0]);have hpos:=hL.pos;have HL:=Hh hL;clear hv hL;go_enter Tryz.func46,Tryz.ntmps46;go_wp2_with(go_at_call 81;refine(rtScan s _ hs).mono ?_;rintro e w1 ⟨v,rfl,o1,b1⟩;rw[HV.out]at o1 ⊢;obtain⟨g,K,rfl,r1,r2,r3,r4,r5⟩:=own5_all o1 hpos;have R1:=Hh (Uw.mk r5 r2 HL.out r3 r4);have T1:=Hh (T0.out.next b1);obtain⟨d0,d1,d2,e0,e1,e2⟩:=Zy T1.out.k0;obtain⟨g0,g1,g2,z0,z1,z2⟩:=Zy T1.out.k1;have hz:=T1.out.k1.inside;have hz0:=T1.out.k0.inside;clear o1 b1 r5;simp only[Zr])
 go_region
 all_goals
  go_wp2
  obtain⟨hS1,hS2,hB⟩:=duo_set T1.out (.slice (some ⟨g,0,none⟩) L.length K) (.int .i64 0) (.int .i64 0) (.int .i64 0) (.int .i64 0) (.int .i64 0);have hF:=Zy ((hS1.alloc (.cells #[.int .i64 0,.int .i64 0,.int .i64 0] 29)).drew);have hG:=Zy ((hS2.alloc (.cells #[.int .i64 0,.int .i64 0,.int .i64 0] 29)).drew);have hgs:w.heap.size+2≤g:=by simpa using r1
  refine bodyPost_ret (v:=.tuple #[qA g K L.length 0 0,Zr okF]) (by simp[results,Tryz.results46,go_sem,hF,hG,Zr,okF,qA]) rfl ⟨g,K,rfl,?_,by omega,?_⟩
  ·exact R1.out.keeps (S:=fun k=>k<w.heap.size+2) ((((Zdf _ _ _ _ _).mono (by intro k hk;omega)).trans ((Zdf _ _ _ _ _).mono (by intro k hk;omega))).alloc _).drew (by omega)
  ·exact Wa (hB.alloc hB.size _)
structure Ret2(w w':World)(g3 g4:Nat)(t3 t4:TypeId)(vs us:List Value):Prop where
 one:Zf w' g3 t3 vs.toArray
 two:Zf w' g4 t4 us.toArray
 keeps:Zq (fun k=>k=g3∨k=g4) w w'
theorem ret2{P:Program}{id:Nat}{Q:Exit→Act→World→Prop}{a:Act}{w:World}{o0 o1 o2 o3:Oper}(hm:P.follows .mixedOrders=true)
  (cs:Region.noSelect #[o0,o1,o2,o3]=true)(cf0:Region.free .any #[o0,o1,o2,o3] (Array.replicate 4 false) 0=true)(cr0:(Region.ready .any #[o0,o1,o2,o3] (Array.replicate 4 false)).contains 0=true)
  (cf1:Region.free .any #[o0,o1,o2,o3] ((Array.replicate 4 false).setIfInBounds 0 true) 1=true)(cr1:(Region.ready .any #[o0,o1,o2,o3] ((Array.replicate 4 false).setIfInBounds 0 true)).contains 1=true)
  (c2:Region.ready .any #[o0,o1,o2,o3] (((Array.replicate 4 false).setIfInBounds 0 true).setIfInBounds 1 true)=[2])
  (c3:Region.ready .any #[o0,o1,o2,o3] ((((Array.replicate 4 false).setIfInBounds 0 true).setIfInBounds 1 true).setIfInBounds 2 true)=[3])
  (c4:Region.ready .any #[o0,o1,o2,o3] (((((Array.replicate 4 false).setIfInBounds 0 true).setIfInBounds 1 true).setIfInBounds 2 true).setIfInBounds 3 true)=[])
  {T1 T2:TypeId}{x1 x2 y1 y2 z1 z2:Operand}(h0:o0.op=.load T1 x1)(h1:o1.op=.load T2 x2)(h2:o2.op=.store T1 y1 z1)(h3:o3.op=.store T2 y2 z2)
  (n0:o0.guard=none)(n1:o1.guard=none)(n2:o2.guard=none)(n3:o3.guard=none)(k2:o2.dst=none)(k3:o3.dst=none)
  (g1 g2 g3 g4:Nat){t1 t2 t3 t4:TypeId}(vs us old3 old4:List Value)(W1:Zf w g1 t1 vs.toArray)(W2:Zf w g2 t2 us.toArray)(W3:Zf w g3 t3 old3.toArray)(W4:Zf w g4 t4 old4.toArray)
  (hl3:vs.length=old3.length)(hl4:us.length=old4.length)(ho1:∀ v ∈ vs,v.oneCell'=true)(ho2:∀ v ∈ us,v.oneCell'=true)
  (d13:g1≠g3)(d14:g1≠g4)(d23:g2≠g3)(d24:g2≠g4)(d34:g3≠g4)
  (hu1:(P.underlying T1).map TypeDesc.isRow=some true)(hi1:(P.info? T1).map (·.size)=some vs.length)(hu2:(P.underlying T2).map TypeDesc.isRow=some true)(hi2:(P.info? T2).map (·.size)=some us.length)
  (e1:a.eval x1=.pointer (some ⟨g1,0,none⟩))(e2:(a.put o0.dst (.agg vs.toArray)).eval x2=.pointer (some ⟨g2,0,none⟩))
  (e3:((a.put o0.dst (.agg vs.toArray)).put o1.dst (.agg us.toArray)).eval y1=.pointer (some ⟨g3,0,none⟩))(e4:((a.put o0.dst (.agg vs.toArray)).put o1.dst (.agg us.toArray)).eval z1=.agg vs.toArray)
  (e5:((a.put o0.dst (.agg vs.toArray)).put o1.dst (.agg us.toArray)).eval y2=.pointer (some ⟨g4,0,none⟩))(e6:((a.put o0.dst (.agg vs.toArray)).put o1.dst (.agg us.toArray)).eval z2=.agg us.toArray)
  (h:∀ w',Ret2 w w' g3 g4 t3 t4 vs us→Q .normal ((a.put o0.dst (.agg vs.toArray)).put o1.dst (.agg us.toArray)) w'):(Code.region id #[o0,o1,o2,o3] true).wp P Q a w:=by
 obtain⟨d1,hu1,hr1⟩:=Option.map_eq_some_iff.1 hu1;obtain⟨d2,hu2,hr2⟩:=Option.map_eq_some_iff.1 hu2;refine wp_region_noPanic (wp_region_held_drew (S:=fun x=>Zf x g1 t1 vs.toArray∧Zf x g2 t2 us.toArray) hm ⟨W1.drew,W2.drew⟩ fun hS=>?_);have rg:∀{x:World}{g:Nat}{t:TypeId}{l:List Value},Zf x g t l.toArray→x.rangeAt g 0 l:=fun{x g t l} hx=>Zf.range (a:=[]) (b:=l) (c:=[]) (by simpa using hx)
 refine wpAnyH_take (i:=0) (oi:=o0) (v:=.agg vs.toArray) rfl cs cf0 cr0 (fun _ _ _ h=>h) (yieldsIf_load_mid (Yu n0) T1 x1 h0 g1 0 e1 vs d1 (fun x hx=>rg hx.1) hu1 hr1 hi1) hS ?_;refine wpAnyH_take (i:=1) (oi:=o1) (v:=.agg us.toArray) rfl cs cf1 cr1 (fun _ _ _ h=>h) (yieldsIf_load_mid (Yu n1) T2 x2 h1 g2 0 e2 us d2 (fun x hx=>rg hx.2) hu2 hr2 hi2) hS ?_;have th:∀{x:World}{g:Nat}{t:TypeId}{l:List Value},Zf x g t l.toArray→x.there g 0 l.length:=fun{x g t l} hx=>Zf.there (a:=[]) (b:=l) (c:=[]) (by simpa using hx)
 have p3:Zf (w.drew.setCells g3 0 vs) g3 t3 vs.toArray:=by
  have e:=Zf.setCells (g:=g3) (t:=t3) [] vs old3 [] w.drew hl3 (by simpa using W3.drew);simpa using e
 have k3':=Zq.setCells (S:=fun k=>k=g3) (g:=g3) rfl vs 0 (Zq.refl _ w.drew);have q4:Zf (w.drew.setCells g3 0 vs) g4 t4 old4.toArray:=k3'.whole W4.drew (Ne.symm d34)
 have p4:Zf ((w.drew.setCells g3 0 vs).setCells g4 0 us) g4 t4 us.toArray:=by
  have e:=Zf.setCells (g:=g4) (t:=t4) [] us old4 [] (w.drew.setCells g3 0 vs) hl4 (by simpa using q4);simpa using e
 have k4':=Zq.setCells (S:=fun k=>k=g4) (g:=g4) rfl us 0 (Zq.refl _ (w.drew.setCells g3 0 vs));refine wpAnyH_ready (rs:=[2]) c2 (by simp) (AllReadyH.cons (o:=o2) rfl (fun K hK=>?_) AllReadyH.nil);rw[if_pos (Yu n2)];refine wp_store_mid T1 y1 z1 h2 g3 0 vs.toArray e3 e4 (by rw[List.size_toArray,hl3];exact th W3.drew) (by simpa using hi1) (all_oneCell_toArray ho1) ?_;rw[k2];refine hK.out _ _ ⟨k3'.whole W1.drew d13,k3'.whole W2.drew d23⟩ fun hS3=>?_
 refine wpAnyH_ready (rs:=[3]) c3 (by simp) (AllReadyH.cons (o:=o3) rfl (fun K hK=>?_) AllReadyH.nil);rw[if_pos (Yu n3)];refine wp_store_mid T2 y2 z2 h3 g4 0 us.toArray e5 e6 (by rw[List.size_toArray,hl4];exact th q4) (by simpa using hi2) (all_oneCell_toArray ho2) ?_;rw[k3];refine hK.out _ _ ⟨k4'.whole (k3'.whole W1.drew d13) d14,k4'.whole (k3'.whole W2.drew d23) d24⟩ fun hS4=>?_
 refine wpAnyH_done c4 ?_ _;refine h _ ⟨k4'.whole p3 d34,p4,?_⟩;exact(Zq.drew (Zq.refl _ w)).trans ((k3'.mono fun k e=>.inl e).trans (k4'.mono fun k e=>.inr e))
def Zt(w:World)(r K:Nat)(L:List TokV):Prop:=0<L.length→Uw w r K L
theorem Zt.below{w w':World}{r K:Nat}{L:List TokV}(h:Zt w r K L)(hb:Below w.heap.size w w'):Zt w' r K L:=fun hl=>(h hl).below hb
theorem Zt.put{x y:World}{r K:Nat}{L:List TokV}(h:Zt x r K L){g B:Nat}{t:TypeId}{vs:List Value}(p:Put x y g t vs)(hr:0<L.length→r<B)(hg:B≤g):Zt y r K L:=fun hl=>(h hl).keeps p.keeps (by have:=hr hl;omega)
theorem Zt.rin{w:World}{r K:Nat}{L:List TokV}(h:Zt w r K L):0<L.length→r<w.heap.size:=fun hl=>(h hl).rin
structure RPv(r K:Nat)(L:List TokV)(st:St)(vs:List Value):Prop where
 form:∃ A n k a d,vs=[.slice A n k,.int .i64 (a:Nat),.int .i64 (d:Nat),.int .i64 (Yx st).1,.int .i64 ((Yx st).2.1:Int),.int .i64 ((Yx st).2.2:Int)]∧d≤8 ∧
  ∀ a' d',st=.ok a' d'→A=some ⟨r,0,none⟩∧n=L.length∧k=K∧a=a'∧d=d'∧a'<L.length
 flt:∀ F,st=.bad F→F.1≠0
theorem RPv.ok{r K:Nat}{L:List TokV}{a d:Nat}{vs:List Value}(h:RPv r K L (.ok a d) vs):∃ n,n=L.length∧vs=[.slice (some ⟨r,0,none⟩) n K,.int .i64 (a:Int),.int .i64 (d:Int),.int .i64 0,.int .i64 0,.int .i64 0]∧a<L.length∧d≤8:=by
 obtain⟨A,n,k,a',d',e,hd,hk⟩:=h.form;obtain⟨h1,h2,h3,h4,h5,h6⟩:=hk a d rfl;subst h1 h3 h4 h5;exact⟨n,h2,e,h6,hd⟩
theorem RPv.bad{r K:Nat}{L:List TokV}{F:Int×Nat×Nat}{vs:List Value}(h:RPv r K L (.bad F) vs):∃ A n k a d,vs=[.slice A n k,.int .i64 (a:Nat),.int .i64 (d:Nat),.int .i64 F.1,.int .i64 (F.2.1:Int),.int .i64 (F.2.2:Int)]∧d≤8∧F.1≠0:=by
 obtain⟨A,n,k,a',d',e,hd,_⟩:=h.form;exact⟨A,n,k,a',d',e,hd,h.flt F rfl⟩
theorem RPv.mkOk{r K:Nat}{L:List TokV}{a d n:Nat}(hn:n=L.length)(ha:a<L.length)(hd:d≤8):RPv r K L (.ok a d) [.slice (some ⟨r,0,none⟩) n K,.int .i64 (a:Int),.int .i64 (d:Int),.int .i64 0,.int .i64 0,.int .i64 0]:=
 ⟨⟨_,_,_,_,_,rfl,hd,fun a' d' e=>by cases e;exact⟨rfl,hn,rfl,rfl,rfl,ha⟩⟩,fun F e=>by cases e⟩
theorem RPv.mkBad{r K:Nat}{L:List TokV}{F:Int×Nat×Nat}(A:Option Addr)(n k a d:Nat)(hd:d≤8)(hF:F.1≠0):RPv r K L (.bad F) [.slice A n k,.int .i64 (a:Int),.int .i64 (d:Int),.int .i64 F.1,.int .i64 (F.2.1:Int),.int .i64 (F.2.2:Int)]:=
 ⟨⟨_,_,_,_,_,rfl,hd,fun a' d' e=>by cases e⟩,fun F e=>by cases e;exact hF⟩
theorem RPv.len{r K:Nat}{L:List TokV}{st:St}{vs:List Value}(h:RPv r K L st vs):vs.length=6:=by
 obtain⟨A,n,k,a,d,e,_⟩:=h.form;rw[e];rfl
theorem RPv.one{r K:Nat}{L:List TokV}{st:St}{vs:List Value}(h:RPv r K L st vs):∀ v ∈ vs,v.oneCell'=true:=by
 obtain⟨A,n,k,a,d,e,_⟩:=h.form;rw[e];simp[Value.oneCell']
theorem RPv.six{r K:Nat}{L:List TokV}{st:St}{vs:List Value}(h:RPv r K L st vs):∃ c0 c1 c2,vs=[c0,c1,c2,.int .i64 (Yx st).1,.int .i64 ((Yx st).2.1:Int),.int .i64 ((Yx st).2.2:Int)]:=by
 obtain⟨A,n,k,a,d,e,_⟩:=h.form;exact⟨_,_,_,e⟩
theorem Zl:(Tryz.prog.underlying 66).map TypeDesc.isRow=some true:=by kernel_rfl
theorem Ya:(Tryz.prog.info? 66).map (·.size)=some 6:=by kernel_rfl
theorem Ze{vs:List Value}(h:vs.length=6):(Tryz.prog.info? 66).map (·.size)=some vs.length:=by rw[h];exact Ya
theorem Zay:(Tryz.prog.underlying 64).map TypeDesc.isRow=some true:=by kernel_rfl
theorem Ws:(Tryz.prog.info? 64).map (·.size)=some 3:=by kernel_rfl
def PPo(w:World)(r K:Nat)(L:List TokV)(st:St)(e:Ending)(w':World):Prop:=∃ vs:List Value,e=.returned (.agg vs.toArray)∧RPv r K L st vs∧Below w.heap.size w w'
def PVo(w:World)(r K:Nat)(L:List TokV)(st:St)(v:Value)(e:Ending)(w':World):Prop:=∃ vs:List Value,e=.returned (.tuple #[.agg vs.toArray,v])∧RPv r K L st vs∧Below w.heap.size w w'
theorem Xa{P:Program}{fn:Func}{R:Ending→World→Prop}{a:Act}{w:World}(s1 T1 s2:Nat)(t1:TypeId)(g1:Nat)(vs:List Value)(v:Value)(hres:fn.results=#[.cell s1 T1,.tmp s2])(h1:Zf w g1 t1 vs.toArray)
  (hu1:(P.underlying T1).map TypeDesc.isRow=some true)(hi1:(P.info? T1).map (·.size)=some vs.length)
  (hp1:a.tmps.getD s1 undef=.pointer (some ⟨g1,0,none⟩))(hp2:a.tmps.getD s2 undef=v)(hd:a.defers=[])(hR:R (.returned (.tuple #[.agg vs.toArray,v])) w):bodyPost P fn R .ret a w:=by
 obtain⟨d1,hu1,hr1⟩:=Option.map_eq_some_iff.1 hu1;refine bodyPost_ret (v:=.tuple #[.agg vs.toArray,v]) ?_ hd hR;have hl1:=run_loadVar_mid (P:=P) w g1 0 T1 vs d1 (by have:=Zf.range (a:=[]) (b:=vs) (c:=[]) (by simpa using h1);exact this) hu1 hr1 hi1;have hp1':a.tmps[s1]?.getD undef=.pointer (some ⟨g1,0,none⟩):=by simpa using hp1
 have hp2':a.tmps[s2]?.getD undef=v:=by simpa using hp2
 simp[results,hres,hp1',hp2',hl1,asAddr,Sem.run_bind,Sem.run_pure]
theorem qbad(w:World)(r K:Nat)(L:List TokV)(st:St)(vs:List Value)(ho:Zt w r K L)(hp:RPv r K L st vs) :
  Calls Tryz.prog 54 #[.agg vs.toArray] w (PPo w r K L (Zgf L st)):=by
 cases st with
 |ok a d=>
  obtain⟨n,hn,rfl,ha,hd⟩:=hp.ok;have hrow:=ho (by omega);have hrin:=ho.rin;have n1:=Zi w (.cells [.slice (some ⟨r,0,none⟩) n K,.int .i64 (a:Int),.int .i64 (d:Int),.int .i64 0,.int .i64 0,.int .i64 0].toArray 66);have n2:=Zi (w.alloc (.cells [.slice (some ⟨r,0,none⟩) n K,.int .i64 (a:Int),.int .i64 (d:Int),.int .i64 0,.int .i64 0,.int .i64 0].toArray 66)) (.cells #[.slice none 0 0,.int .i64 0,.int .i64 0,.int .i64 0,.int .i64 0,.int .i64 0] 66);have X0:=Hh ((Zf.made w 66 [.slice (some ⟨r,0,none⟩) n K,.int .i64 (a:Int),.int .i64 (d:Int),.int .i64 0,.int .i64 0,.int .i64 0].toArray).alloc (.cells #[.slice none 0 0,.int .i64 0,.int .i64 0,.int .i64 0,.int .i64 0,.int .i64 0] 66));have R0:=Hh (show Zf ((w.alloc (.cells [.slice (some ⟨r,0,none⟩) n K,.int .i64 (a:Int),.int .i64 (d:Int),.int .i64 0,.int .i64 0,.int .i64 0].toArray 66)).alloc (.cells #[.slice none 0 0,.int .i64 0,.int .i64 0,.int .i64 0,.int .i64 0,.int .i64 0] 66)) (w.heap.size+1) 66 ([.slice none 0 0,.int .i64 0,.int .i64 0,.int .i64 0,.int .i64 0,.int .i64 0]:List Value).toArray from by have e:=Zf.made (w.alloc (.cells [.slice (some ⟨r,0,none⟩) n K,.int .i64 (a:Int),.int .i64 (d:Int),.int .i64 0,.int .i64 0,.int .i64 0].toArray 66)) 66 #[.slice none 0 0,.int .i64 0,.int .i64 0,.int .i64 0,.int .i64 0,.int .i64 0];rw[World.size_alloc]at e;exact e);have B0:=Hh (Ue n1 n2);have O0:=Hh ((ho.below n1).below n2);have hz0:w.heap.size+2≤((w.alloc (.cells [.slice (some ⟨r,0,none⟩) n K,.int .i64 (a:Int),.int .i64 (d:Int),.int .i64 0,.int .i64 0,.int .i64 0].toArray 66)).alloc (.cells #[.slice none 0 0,.int .i64 0,.int .i64 0,.int .i64 0,.int .i64 0,.int .i64 0] 66)).heap.size:=by simp
  clear n1 n2;have hw:=Zfn (Zv L a);have HW:=Hh hw;have HN:=Hh hn;clear hw ho hp hrow hn;go_enter Tryz.func54,Tryz.ntmps54;go_wp2_with(first
 |(go_at_call 82;refine(qWrong _ r K L n a d HN.out (O0.out (by omega)) ha).mono ?_;rintro e w1 ⟨rfl,b1⟩
   have X1:=Hh (X0.out.below b1 X0.out.inside);have R1:=Hh (R0.out.below b1 R0.out.inside);have B1:=Hh (bthen2 B0.out b1 (by first | omega | (simp;done) | (simp;omega)));have O1:=Hh (O0.out.below b1);have hz1:w.heap.size+2≤w1.heap.size:=by have:=b1.size;(try simp at this);omega
   simp only[Zr];clear b1 )
 |((with_reducible refine Zg 10 9 ?_);refine Xf 29 _ _ 66 (w.heap.size) 3 ([.slice (some ⟨r,0,none⟩) n K,.int .i64 (a:Int),.int .i64 (d:Int)]) ([.int .i64 0,.int .i64 0,.int .i64 0]) ([]) ([.int .i64 (wrF (Zv L a)).1,.int .i64 ((wrF (Zv L a)).2.1:Int),.int .i64 ((wrF (Zv L a)).2.2:Int)]) (by first | exact X1.out | simpa using X1.out) rfl rfl Wr (by simp[Value.oneCell']) rfl rfl rfl rfl rfl ?_
   intro w2 p2;have X2:=Hh (show Zf w2 (w.heap.size) 66 (([.slice (some ⟨r,0,none⟩) n K,.int .i64 (a:Int),.int .i64 (d:Int)]:List Value)++([.int .i64 (wrF (Zv L a)).1,.int .i64 ((wrF (Zv L a)).2.1:Int),.int .i64 ((wrF (Zv L a)).2.2:Int)]:List Value)++([]:List Value)).toArray from by first | exact p2.whole | simpa using p2.whole);have R2:=Hh (p2.keeps.whole R1.out (by omega));have B2:=Hh (Zbh B1.out p2 (by omega) (by omega));have O2:=Hh (O1.out.put p2 hrin (by omega));have hz2:=Nat.le_trans hz1 p2.keeps.size;clear p2)
 |((with_reducible refine Zd 11 ?_);refine Zb 66 _ 66 (w.heap.size) _ X2.out Zl Ya rfl rfl rfl ?_)
 |((with_reducible refine Zg 2 11 ?_);refine Za 66 _ _ 66 (w.heap.size+1) _ ([.slice (some ⟨r,0,none⟩) n K,.int .i64 (a:Int),.int .i64 (d:Int),.int .i64 (wrF (Zv L a)).1,.int .i64 ((wrF (Zv L a)).2.1:Int),.int .i64 ((wrF (Zv L a)).2.2:Int)]) R2.out rfl Ya (by simp[Value.oneCell']) rfl rfl rfl rfl rfl ?_
   intro w3 p3;have R3:=Hh p3.whole;have X3:=Hh (p3.keeps.whole X2.out (by omega));have B3:=Hh (Zbh B2.out p3 (by omega) (by omega));have O3:=Hh (O2.out.put p3 hrin (by omega));have hz3:=Nat.le_trans hz2 p3.keeps.size;clear p3))
  exact Wg 2 66 66 _ _ rfl R3.out Zl Ya rfl rfl ⟨_,rfl,RPv.mkBad _ _ _ _ _ hd HW.out,B3.out⟩
 |bad F=>
  obtain⟨A,n,k,a,d,rfl,hd,hF⟩:=hp.bad;obtain⟨f0,f1,f2⟩:=F;have z0:(f0 == 0)=false:=by rw[beq_eq_false_iff_ne];exact hF
  have hrin:=ho.rin;have n1:=Zi w (.cells [.slice A n k,.int .i64 (a:Int),.int .i64 (d:Int),.int .i64 f0,.int .i64 (f1:Int),.int .i64 (f2:Int)].toArray 66);have n2:=Zi (w.alloc (.cells [.slice A n k,.int .i64 (a:Int),.int .i64 (d:Int),.int .i64 f0,.int .i64 (f1:Int),.int .i64 (f2:Int)].toArray 66)) (.cells #[.slice none 0 0,.int .i64 0,.int .i64 0,.int .i64 0,.int .i64 0,.int .i64 0] 66);have X0:=Hh ((Zf.made w 66 [.slice A n k,.int .i64 (a:Int),.int .i64 (d:Int),.int .i64 f0,.int .i64 (f1:Int),.int .i64 (f2:Int)].toArray).alloc (.cells #[.slice none 0 0,.int .i64 0,.int .i64 0,.int .i64 0,.int .i64 0,.int .i64 0] 66));have R0:=Hh (show Zf ((w.alloc (.cells [.slice A n k,.int .i64 (a:Int),.int .i64 (d:Int),.int .i64 f0,.int .i64 (f1:Int),.int .i64 (f2:Int)].toArray 66)).alloc (.cells #[.slice none 0 0,.int .i64 0,.int .i64 0,.int .i64 0,.int .i64 0,.int .i64 0] 66)) (w.heap.size+1) 66 ([.slice none 0 0,.int .i64 0,.int .i64 0,.int .i64 0,.int .i64 0,.int .i64 0]:List Value).toArray from by have e:=Zf.made (w.alloc (.cells [.slice A n k,.int .i64 (a:Int),.int .i64 (d:Int),.int .i64 f0,.int .i64 (f1:Int),.int .i64 (f2:Int)].toArray 66)) 66 #[.slice none 0 0,.int .i64 0,.int .i64 0,.int .i64 0,.int .i64 0,.int .i64 0];rw[World.size_alloc]at e;exact e);have B0:=Hh (Ue n1 n2);have O0:=Hh ((ho.below n1).below n2);have hz0:w.heap.size+2≤((w.alloc (.cells [.slice A n k,.int .i64 (a:Int),.int .i64 (d:Int),.int .i64 f0,.int .i64 (f1:Int),.int .i64 (f2:Int)].toArray 66)).alloc (.cells #[.slice none 0 0,.int .i64 0,.int .i64 0,.int .i64 0,.int .i64 0,.int .i64 0] 66)).heap.size:=by simp
  clear n1 n2;have HF:=Hh hF;clear ho hp hF;go_enter Tryz.func54,Tryz.ntmps54;go_wp2_with(first
 |((with_reducible refine Zd 11 ?_);refine Zb 66 _ 66 (w.heap.size) _ X0.out Zl Ya rfl rfl rfl ?_)
 |((with_reducible refine Zg 2 11 ?_);refine Za 66 _ _ 66 (w.heap.size+1) _ ([.slice A n k,.int .i64 (a:Int),.int .i64 (d:Int),.int .i64 f0,.int .i64 (f1:Int),.int .i64 (f2:Int)]) R0.out rfl Ya (by simp[Value.oneCell']) rfl rfl rfl rfl rfl ?_
   intro w1 p1;have R1:=Hh p1.whole;have X1:=Hh (p1.keeps.whole X0.out (by omega));have B1:=Hh (Zbh B0.out p1 (by omega) (by omega));have O1:=Hh (O0.out.put p1 hrin (by omega));have hz1:w.heap.size+2≤w1.heap.size:=by have:=p1.keeps.size;(try simp at this);omega
   clear p1))
  exact Wg 2 66 66 _ _ rfl R1.out Zl Ya rfl rfl ⟨_,rfl,RPv.mkBad (F:=(f0,f1,f2)) _ _ _ _ _ hd HF.out,B1.out⟩
structure Zed(w:World)(xs rs:List Value)(x:World):Prop where
 box:Zf x w.heap.size 66 xs.toArray
 res:Zf x (w.heap.size+1) 66 rs.toArray
 below:Below w.heap.size w x
 size:w.heap.size+2≤x.heap.size
theorem Zed.start(w:World)(xs rs:List Value):Zed w xs rs ((w.alloc (.cells xs.toArray 66)).alloc (.cells rs.toArray 66)):=by
 refine⟨(Zf.made w _ xs.toArray).alloc _,?_,(Ue (Zi w _) (Zi _ _)),by simp⟩;have e:=Zf.made (w.alloc (.cells xs.toArray 66)) 66 rs.toArray;rw[World.size_alloc]at e;exact e
theorem Zed.next{w x y:World}{xs rs:List Value}(h:Zed w xs rs x)(b:Below x.heap.size x y):Zed w xs rs y:=
 ⟨h.box.below b (by have:=h.size;omega),h.res.below b (by have:=h.size;omega),h.below.trans (b.mono (by have:=h.size;omega)),by have:=h.size;have:=b.size;omega⟩
theorem Zed.drew{w x:World}{xs rs:List Value}(h:Zed w xs rs x):Zed w xs rs x.drew:=⟨h.box,h.res,Wa h.below,h.size⟩
theorem Zed.drewN{w x:World}{xs rs:List Value}(h:Zed w xs rs x)(n:Nat):Zed w xs rs (x.drewN n):=⟨h.box,h.res,Zhx h.below n,h.size⟩
theorem Zed.setB{w x y:World}{xs ys rs:List Value}(h:Zed w xs rs x)(p:Put x y w.heap.size 66 ys):Zed w ys rs y:=
 ⟨p.whole,p.keeps.whole h.res (by omega),Zbh h.below p (Nat.le_refl _) (by have:=h.size;omega),by have:=h.size;have:=p.keeps.size;omega⟩
theorem Zed.setR{w x y:World}{xs ys rs:List Value}(h:Zed w xs rs x)(p:Put x y (w.heap.size+1) 66 ys):Zed w xs ys y:=
 ⟨p.keeps.whole h.box (by omega),p.whole,Zbh h.below p (by omega) (by have:=h.size;omega),by have:=h.size;have:=p.keeps.size;omega⟩
theorem qmay(w:World)(r K:Nat)(L:List TokV)(st:St)(vs:List Value)(ws:List ByteArray)(g n m:Nat)(ho:Zt w r K L)(hp:RPv r K L st vs)(hw:Zmn w g ws)(hn:n=ws.length)(hl:n≤64) :
  Calls Tryz.prog 20 #[.agg vs.toArray,.slice (some ⟨g,0,none⟩) n m] w (PVo w r K L (Zz L ws st) (.int .i64 (Zh L ws st))):=by
 have l64:(n:Int)≤64:=by omega
 cases st with
 |bad F=>
  obtain⟨A,nb,kb,a,d,rfl,hd,hF⟩:=hp.bad;obtain⟨f0,f1,f2⟩:=F;have z0:(f0 == 0)=false:=by rw[beq_eq_false_iff_ne];exact hF
  have HF:=Hh hF;have T0:=Hh (Zed.start w [.slice A nb kb,.int .i64 (a:Int),.int .i64 (d:Int),.int .i64 f0,.int .i64 (f1:Int),.int .i64 (f2:Int)] [.slice none 0 0,.int .i64 0,.int .i64 0,.int .i64 0,.int .i64 0,.int .i64 0]);clear ho hp hF hw hn;go_enter Tryz.func20,Tryz.ntmps20;go_wp2
  go_loopw [6] (fun i wr=>i=.int .i64 0∧Zed w [.slice A nb kb,.int .i64 (a:Int),.int .i64 (d:Int),.int .i64 f0,.int .i64 (f1:Int),.int .i64 (f2:Int)] [.slice none 0 0,.int .i64 0,.int .i64 0,.int .i64 0,.int .i64 0,.int .i64 0] wr) (fun i _=>0)
  case atStart=>exact⟨rfl,T0.out⟩
  case round=>
    obtain⟨rfl,hT⟩:=hrel;obtain⟨c0,c1,c2,c3,c4,c5⟩:=Xs hT.box;have T:=Hh hT;clear hT;go_wp2_with(first
 |((with_reducible refine Zd 33 ?_);refine Zb 66 _ 66 (w.heap.size) _ T.out.box Zl Ya rfl rfl rfl ?_)
 |((with_reducible refine Zg 4 33 ?_);refine Za 66 _ _ 66 (w.heap.size+1) _ [.slice A nb kb,.int .i64 (a:Int),.int .i64 (d:Int),.int .i64 f0,.int .i64 (f1:Int),.int .i64 (f2:Int)] T.out.res rfl Ya (by simp[Value.oneCell']) rfl rfl rfl rfl rfl ?_
   intro w1 p1;have T1:=Hh (T.out.setR p1)
   clear p1))
    all_goals exact Xa 4 66 5 66 _ _ _ rfl T1.out.res Zl Ya rfl rfl rfl ⟨_,rfl,RPv.mkBad (F:=(f0,f1,f2)) _ _ _ _ _ hd HF.out,T1.out.below⟩
 |ok a d=>
  obtain⟨nn,hnn,rfl,ha,hd⟩:=hp.ok;have hpos:0<L.length:=by omega
  have hrow:∀ x,Below w.heap.size w x→Uw x r K L:=fun x hb=>(ho hpos).below hb
  have hon:=(ho hpos).ends.on ha;have hwx:∀ x,Below w.heap.size w x→Zmn x g ws:=fun x hb=>Zf.below hw hb hw.inside
  have HO:=Hh hrow;have HX:=Hh hwx;have HM:=Hh (And.intro hnn (And.intro ha (And.intro hn (And.intro hd hon))));have T0:=Hh (Zed.start w [.slice (some ⟨r,0,none⟩) nn K,.int .i64 (a:Int),.int .i64 (d:Int),.int .i64 0,.int .i64 0,.int .i64 0] [.slice none 0 0,.int .i64 0,.int .i64 0,.int .i64 0,.int .i64 0,.int .i64 0]);clear ho hp hw hn hnn ha hpos hrow hwx hd hon;go_enter Tryz.func20,Tryz.ntmps20;go_wp2
  go_loopw [6] (fun i wr=>∃ k:Nat,i=.int .i64 k∧k≤n∧Zed w [.slice (some ⟨r,0,none⟩) nn K,.int .i64 (a:Int),.int .i64 (d:Int),.int .i64 0,.int .i64 0,.int .i64 0] [.slice none 0 0,.int .i64 0,.int .i64 0,.int .i64 0,.int .i64 0,.int .i64 0] wr∧∀ j,j<k→isT (Zv L a) (ws.getD j ⟨#[]⟩)=false) (fun i _=>n - (intOf i).toNat)
  case atStart=>exact⟨0,by go_num,Nat.zero_le _,T0.out,fun j hj=>by omega⟩
  case round=>
    obtain⟨k,rfl,hk,hT,hj⟩:=hrel;obtain⟨c0,c1,c2,c3,c4,c5⟩:=Xs hT.box;have T:=Hh hT;have HJ:=Hh hj;obtain⟨M1,M2,M3,M4,M5⟩:=HM.out;have HW:=HX.out _ hT.below;by_cases hlt:k<n
    ·have hx:=HW.at_ (k:=k) (by omega)
     have hi:=HW.inside;generalize hv:isT (Zv L a) (ws.getD k ⟨#[]⟩)=b;have ht:∀ x,Zed w [.slice (some ⟨r,0,none⟩) nn K,.int .i64 (a:Int),.int .i64 (d:Int),.int .i64 0,.int .i64 0,.int .i64 0] [.slice none 0 0,.int .i64 0,.int .i64 0,.int .i64 0,.int .i64 0,.int .i64 0] x→Calls Tryz.prog 47 #[.agg #[.slice (some ⟨r,0,none⟩) nn K,.int .i64 (a:Int),.int .i64 (d:Int)],.string (ws.getD k ⟨#[]⟩)] x (fun e w'=>e=.returned (.bool b)∧Below x.heap.size x w'):=fun x h=>by rw[←hv];exact qIs x r K L nn a d _ M1 (HO.out _ h.below) M2
     have HT:=Hh ht;generalize hX:ws.getD k ⟨#[]⟩=tx at *;have HV:=Hh hv;have HXx:=Hh hX;have hlt':(k:Int)<(n:Int):=by omega
     have e1:IntKind.i64.wrap ((k:Int)+1)=(k:Int)+1:=IntWalk.i64_in _ (by omega);have HK:=Hh (show k<ws.length by omega);have HE1:=Hh e1;clear hT hj HW hv hk ht hX M1 M2 M3 M4 M5 e1;cases b
     ·go_wp2
      go_region_with(go_at_call 47;refine(HT.out _ (by first | exact T.out.drew | exact T.out.drewN _ | exact T.out)).mono ?_;rintro e w1 ⟨rfl,b1⟩;have T1:=Hh ((by first | exact T.out.drew | exact T.out.drewN _ | exact T.out:Zed w [.slice (some ⟨r,0,none⟩) nn K,.int .i64 (a:Int),.int .i64 (d:Int),.int .i64 0,.int .i64 0,.int .i64 0] [.slice none 0 0,.int .i64 0,.int .i64 0,.int .i64 0,.int .i64 0,.int .i64 0] _).next b1);clear b1)
      all_goals
       have hj:=HJ.out;have hk:=HK.out;have e1:=HE1.out;go_wp2
       go_roundw
       case rel=>
        refine⟨k+1,by go_num,by omega,T1.out,fun j hj'=>?_⟩;by_cases e:j=k
        ·subst e;rw[HXx.out];exact HV.out
        ·exact hj j (by omega)
       case measure=>simp[intOf];omega
     ·go_wp2
      go_region_with(go_at_call 47;refine(HT.out _ (by first | exact T.out.drew | exact T.out.drewN _ | exact T.out)).mono ?_;rintro e w1 ⟨rfl,b1⟩;have T1:=Hh ((by first | exact T.out.drew | exact T.out.drewN _ | exact T.out:Zed w [.slice (some ⟨r,0,none⟩) nn K,.int .i64 (a:Int),.int .i64 (d:Int),.int .i64 0,.int .i64 0,.int .i64 0] [.slice none 0 0,.int .i64 0,.int .i64 0,.int .i64 0,.int .i64 0,.int .i64 0] _).next b1);clear b1;obtain⟨d0,d1,d2,d3,d4,d5⟩:=Xs T1.out.box)
      all_goals
       go_wp2_with(first
 |(go_at_call 48;refine(qOn _ r K L nn a d HM.out.1 (HO.out _ T1.out.below) HM.out.2.1).mono ?_;rintro e w2 ⟨rfl,b2⟩;have T2:=Hh (T1.out.next b2);clear b2)
 |((with_reducible refine Zg 29 28 ?_);refine Xf 64 _ _ 66 (w.heap.size) 0 [] [.slice (some ⟨r,0,none⟩) nn K,.int .i64 (a:Int),.int .i64 (d:Int)] [.int .i64 0,.int .i64 0,.int .i64 0] [.slice (some ⟨r,0,none⟩) nn K,.int .i64 (onA L a:Int),.int .i64 (d:Int)] (by first | exact T2.out.box | simpa using T2.out.box) rfl rfl Ws (by simp[Value.oneCell']) rfl rfl rfl rfl rfl ?_
   intro w3 p3;have T3:=Hh (T2.out.setB (ys:=[.slice (some ⟨r,0,none⟩) nn K,.int .i64 (onA L a:Int),.int .i64 (d:Int),.int .i64 0,.int .i64 0,.int .i64 0]) (by simpa using p3));clear p3)
 |((with_reducible refine Zd 30 ?_);refine Zb 66 _ 66 (w.heap.size) _ T3.out.box Zl Ya rfl rfl rfl ?_)
 |((with_reducible refine Zg 4 30 ?_);refine Za 66 _ _ 66 (w.heap.size+1) _ [.slice (some ⟨r,0,none⟩) nn K,.int .i64 (onA L a:Int),.int .i64 (d:Int),.int .i64 0,.int .i64 0,.int .i64 0] T3.out.res rfl Ya (by simp[Value.oneCell']) rfl rfl rfl rfl rfl ?_
   intro w4 p4;have T4:=Hh (T3.out.setR p4)
   clear p4))
       refine Xa 4 66 5 66 _ _ _ rfl T4.out.res Zl Ya rfl rfl rfl ?_;obtain⟨M1,M2,M3,M4,M5⟩:=HM.out;have hf:=idx_hit (Zv L a) ws k HK.out HJ.out (by rw[HXx.out];exact HV.out);refine⟨[.slice (some ⟨r,0,none⟩) nn K,.int .i64 (onA L a:Int),.int .i64 (d:Int),.int .i64 0,.int .i64 0,.int .i64 0],?_,?_,T4.out.below⟩
       ·show _=Ending.returned (.tuple #[_,.int .i64 (Jl (Zv L a) ws:Int)])
        rw[hf];rfl
       ·show RPv r K L (if Jl (Zv L a) ws=0 then _ else _) _
        rw[if_neg (by omega)];exact RPv.mkOk M1 M5 M4
    ·have e:=idx_miss (Zv L a) ws (fun j hj'=>hj j (by omega))
     have HE:=Hh e;have hge:(n:Int)≤(k:Int):=by omega
     clear hT hj HW hk M1 M2 M3 M4 M5 e;go_wp2_with(first
 |((with_reducible refine Zd 33 ?_);refine Zb 66 _ 66 (w.heap.size) _ T.out.box Zl Ya rfl rfl rfl ?_)
 |((with_reducible refine Zg 4 33 ?_);refine Za 66 _ _ 66 (w.heap.size+1) _ [.slice (some ⟨r,0,none⟩) nn K,.int .i64 (a:Int),.int .i64 (d:Int),.int .i64 0,.int .i64 0,.int .i64 0] T.out.res rfl Ya (by simp[Value.oneCell']) rfl rfl rfl rfl rfl ?_
   intro w1 p1;have T1:=Hh (T.out.setR p1)
   clear p1))
     refine Xa 4 66 5 66 _ _ _ rfl T1.out.res Zl Ya rfl rfl rfl ?_;obtain⟨M1,M2,M3,M4,M5⟩:=HM.out;refine⟨[.slice (some ⟨r,0,none⟩) nn K,.int .i64 (a:Int),.int .i64 (d:Int),.int .i64 0,.int .i64 0,.int .i64 0],?_,?_,T1.out.below⟩
     ·show _=Ending.returned (.tuple #[_,.int .i64 (Jl (Zv L a) ws:Int)])
      rw[HE.out];rfl
     ·show RPv r K L (if Jl (Zv L a) ws=0 then _ else _) _
      rw[if_pos HE.out];exact RPv.mkOk M1 M2 M4
open Go Go.RowKit Go.Great
section
variable {w x y:World} {bs:List Bk} {rs:List Rw} {ts:List (Ds×List Value)}
theorem Env.ret2(h:Env w bs rs ts x)(i j:Nat){g3 g4:Nat}{t3 t4:TypeId}{o3 o4 vs us:List Value}(hi:bs[i]?=some (g3,t3,o3))(hj:bs[j]?=some (g4,t4,o4))(p:Ret2 x y g3 g4 t3 t4 vs us) :
   (∀ u ∈ ts,Zn (fun k=>w.heap.size≤k) y u.1 u.2)∧Below w.heap.size w y:=
 ⟨fun u hu=>(h.deep u hu).keeps p.keeps fun k _ hn=>⟨fun e=>by
    rcases e with e | e
    ·exact hn.2.1 _ (List.mem_of_getElem? hi) e.symm
    ·exact hn.2.1 _ (List.mem_of_getElem? hj) e.symm,hn.1⟩,
   h.below.trans (p.keeps.below h.below.size fun k e=>by
    rcases e with e | e
    ·rw[e];exact h.lo _ (List.mem_of_getElem? hi)
    ·rw[e];exact h.lo _ (List.mem_of_getElem? hj))⟩
end
theorem z_P:(Tryz.prog.info? 66).map (fun i=>i.zero.map Value.cells)=some (some ([.slice none 0 0,.int .i64 0,.int .i64 0,.int .i64 0,.int .i64 0,.int .i64 0]:List Value).toArray):=by kernel_rfl
theorem z_C:(Tryz.prog.info? 64).map (fun i=>i.zero.map Value.cells)=some (some ([.slice none 0 0,.int .i64 0,.int .i64 0]:List Value).toArray):=by kernel_rfl
theorem z_F:(Tryz.prog.info? 29).map (fun i=>i.zero.map Value.cells)=some (some ([.int .i64 0,.int .i64 0,.int .i64 0]:List Value).toArray):=by kernel_rfl
theorem z_T:(Tryz.prog.info? 51).map (fun i=>i.zero.map Value.cells)=some (some ([.int .i64 0,.int .i64 0]:List Value).toArray):=by kernel_rfl
theorem Zkj(w:World)(r K G:Nat)(L:List TokV)(st:St)(vs:List Value)(ws:List ByteArray)(n m:Nat)(cs:Array Value)(hcs:cs=(ws.map Value.string).toArray)(hG:G=w.heap.size)(ho:Zt w r K L)(hp:RPv r K L st vs)(hn:n=ws.length)(hl:n≤64) :
  Calls Tryz.prog 20 #[.agg vs.toArray,.slice (some ⟨G,0,none⟩) n m] (w.alloc (.cells cs 9)) (PVo w r K L (Zz L ws st) (.int .i64 (Zh L ws st))):=by
 subst hcs hG;have nb:=Zi w (.cells (ws.map Value.string).toArray 9);refine(qmay _ r K L st vs ws w.heap.size n m (ho.below nb) hp (Zf.made w _ _) hn hl).mono ?_;rintro e w' ⟨v,h1,h2,h3⟩;exact⟨v,h1,h2,Ue nb h3⟩
theorem qmust(w:World)(r K:Nat)(L:List TokV)(st:St)(vs:List Value)(ws:List ByteArray)(g n m:Nat)(ho:Zt w r K L)(hp:RPv r K L st vs)(hw:Zmn w g ws)(hn:n=ws.length)(hl:n≤64) :
  Calls Tryz.prog 51 #[.agg vs.toArray,.slice (some ⟨g,0,none⟩) n m] w (PVo w r K L (Zm L ws st) (.int .i64 (Zh L ws st))):=by
 have T0:=Hh (Env.start w);by_cases hz:Zh L ws st=0
 ·have e1:Zm L ws st=Zgf L (Zz L ws st):=by unfold Zm;rw[if_pos hz,Uz L hz]
  have e2:((Zh L ws st:Int) == 0)=true:=by rw[hz];rfl
  have e3:Value.int .i64 (Zh L ws st:Int)=.int .i64 0:=by rw[hz];rfl
  have E1:=Hh e1;have E3:=Hh e3;have HZ:=Hh (And.intro hw hn);clear e1 e3 hz hn;go_enter Tryz.func51,Tryz.ntmps51;go_wp2_with(first
 |((with_reducible refine Zd 2 ?_);refine Zo T0.out 66 _ (vs) rfl rfl rfl ?_;intro w1 g0 t1
   have T1:=Hh (t1);clear t1)
 |((with_reducible refine Zd 4 ?_);refine Zc T1.out 66 _ rfl rfl z_P ?_;intro w2 g1 t2
   have T2:=Hh (t2);clear t2)
 |((with_reducible refine Zd 9 ?_);refine Zb 66 _ 66 g0 _ (T2.out.get 0 rfl) Zl (Ze hp.len) rfl rfl rfl ?_)
 |(go_at_call 20;refine(qmay _ r K L st vs ws g n m (ho.below T2.out.below) hp (Zf.below HZ.out.1 T2.out.below HZ.out.1.inside) HZ.out.2 hl).mono ?_;rintro e w3 ⟨v3,rfl,h3,b3⟩
   have T3:=Hh (T2.out.call b3);clear b3)
 |((with_reducible refine Zd 6 ?_);refine Zc T3.out 66 _ rfl rfl z_P ?_;intro w4 g2 t4
   have T4:=Hh (t4);clear t4)
 |((with_reducible refine Zg 6 12 ?_);refine Za 66 _ _ 66 g2 _ (v3) (T4.out.get 2 rfl) h3.len (Ze h3.len) h3.one rfl rfl rfl rfl rfl ?_
   intro w5 p5;have T5:=Hh (T4.out.put 2 rfl p5);clear p5)
 |((with_reducible refine Zd 16 ?_);refine Zb 66 _ 66 g2 _ (T5.out.get 2 rfl) Zl (Ze h3.len) rfl rfl rfl ?_)
 |(go_at_call 54;refine(qbad _ r K L _ v3 (ho.below T5.out.below) h3).mono ?_;rintro e w6 ⟨v6,rfl,h6,b6⟩
   have T6:=Hh (T5.out.call b6);clear b6)
 |((with_reducible refine Zg 4 17 ?_);refine Za 66 _ _ 66 g1 _ (v6) (T6.out.get 1 rfl) h6.len (Ze h6.len) h6.one rfl rfl rfl rfl rfl ?_
   intro w7 p7;have T7:Hid (Env w [(g0,66,vs),(g1,66,v6),(g2,66,v3)] [] [] w7):=Hh (T6.out.put 1 rfl p7);clear p7))
  refine Xa 4 66 5 66 _ _ _ rfl (T7.out.get 1 rfl) Zl (Ze h6.len) rfl rfl rfl ?_;rw[E1.out,E3.out];exact⟨v6,rfl,h6,T7.out.below⟩
 ·have e1:Zm L ws st=Zz L ws st:=by unfold Zm;rw[if_neg hz]
  have e2:((Zh L ws st:Int) == 0)=false:=by rw[beq_eq_false_iff_ne];omega
  have E1:=Hh e1;have HZ:=Hh (And.intro hw hn);clear e1 hz hn;go_enter Tryz.func51,Tryz.ntmps51;go_wp2_with(first
 |((with_reducible refine Zd 2 ?_);refine Zo T0.out 66 _ (vs) rfl rfl rfl ?_;intro w1 g0 t1
   have T1:=Hh (t1);clear t1)
 |((with_reducible refine Zd 4 ?_);refine Zc T1.out 66 _ rfl rfl z_P ?_;intro w2 g1 t2
   have T2:=Hh (t2);clear t2)
 |((with_reducible refine Zd 9 ?_);refine Zb 66 _ 66 g0 _ (T2.out.get 0 rfl) Zl (Ze hp.len) rfl rfl rfl ?_)
 |(go_at_call 20;refine(qmay _ r K L st vs ws g n m (ho.below T2.out.below) hp (Zf.below HZ.out.1 T2.out.below HZ.out.1.inside) HZ.out.2 hl).mono ?_;rintro e w3 ⟨v3,rfl,h3,b3⟩
   have T3:=Hh (T2.out.call b3);clear b3)
 |((with_reducible refine Zd 6 ?_);refine Zc T3.out 66 _ rfl rfl z_P ?_;intro w4 g2 t4
   have T4:=Hh (t4);clear t4)
 |((with_reducible refine Zg 6 12 ?_);refine Za 66 _ _ 66 g2 _ (v3) (T4.out.get 2 rfl) h3.len (Ze h3.len) h3.one rfl rfl rfl rfl rfl ?_
   intro w5 p5;have T5:=Hh (T4.out.put 2 rfl p5);clear p5)
 |((with_reducible refine Zd 18 ?_);refine Zb 66 _ 66 g2 _ (T5.out.get 2 rfl) Zl (Ze h3.len) rfl rfl rfl ?_)
 |((with_reducible refine Zg 4 18 ?_);refine Za 66 _ _ 66 g1 _ (v3) (T5.out.get 1 rfl) h3.len (Ze h3.len) h3.one rfl rfl rfl rfl rfl ?_
   intro w6 p6;have T6:Hid (Env w [(g0,66,vs),(g1,66,v3),(g2,66,v3)] [] [] w6):=Hh (T5.out.put 1 rfl p6);clear p6))
  refine Xa 4 66 5 66 _ _ _ rfl (T6.out.get 1 rfl) Zl (Ze h3.len) rfl rfl rfl ?_;rw[E1.out];exact⟨v3,rfl,h3,T6.out.below⟩
theorem Zdv(w:World)(r K G:Nat)(L:List TokV)(st:St)(vs:List Value)(ws:List ByteArray)(n m:Nat)(cs:Array Value)(hcs:cs=(ws.map Value.string).toArray)(hG:G=w.heap.size)(ho:Zt w r K L)(hp:RPv r K L st vs)(hn:n=ws.length)(hl:n≤64) :
  Calls Tryz.prog 51 #[.agg vs.toArray,.slice (some ⟨G,0,none⟩) n m] (w.alloc (.cells cs 9)) (PVo w r K L (Zm L ws st) (.int .i64 (Zh L ws st))):=by
 subst hcs hG;have nb:=Zi w (.cells (ws.map Value.string).toArray 9);refine(qmust _ r K L st vs ws w.heap.size n m (ho.below nb) hp (Zf.made w _ _) hn hl).mono ?_;rintro e w' ⟨v,h1,h2,h3⟩;exact⟨v,h1,h2,Ue nb h3⟩
theorem one_want(L:List TokV)(t:ByteArray)(st:St):Zm L [t] st=Zx L t st:=by
 cases st with
 |bad F=>rfl
 |ok a d=>
  unfold Zm Zx;show(if Jl (Zv L a) [t]=0 then _ else if Jl (Zv L a) [t]=0 then _ else _)=if isT (Zv L a) t=true then St.ok (Zav L a t) d else _
  unfold Jl Jl Zav;by_cases h:isT (Zv L a) t=true
  ·simp[h]
  ·simp[h]
theorem kindA_in{L:List TokV}(h:Zla L){a:Nat}(ha:a<L.length)(k:Int):Vj L a k<L.length:=by
 unfold Vj;split
 ·exact h.on ha
 ·exact ha
theorem signA_in{L:List TokV}(h:Zla L){a:Nat}(ha:a<L.length):Zch L a<L.length:=by
 unfold Zch;split
 ·split
  ·exact h.on (h.on ha)
  ·exact ha
 ·exact kindA_in h ha 2
theorem Zkr(L:List TokV)(a:Nat)(k:Int)(h:(Xz L a k).1=0):Xz L a k=okF:=by
 unfold Xz at *;split
 ·rfl
 ·rename_i hk
  rw[if_neg hk]at h;exact absurd h (Zfn _)
theorem signF_ok(L:List TokV)(a:Nat)(h:(Zak L a).1=0):Zak L a=okF:=by
 unfold Zak at *;split
 ·rename_i hk
  rw[if_pos hk]at h;exact Zkr _ _ _ h
 ·rename_i hk
  rw[if_neg hk]at h;exact Zkr _ _ _ h
theorem downF_ok(L:List TokV)(a d:Nat)(h:(Us L a d).1=0):Us L a d=okF:=by
 unfold Us at *;split
 ·rename_i hk
  rw[if_pos hk]at h;exact absurd h (by simp)
 ·rfl
theorem RPv.note{r K:Nat}{L:List TokV}{a d n:Nat}{F:Int×Nat×Nat}(hF:F.1=0→F=okF)(hn:n=L.length)(ha:a<L.length)(hd:d≤8) :
  RPv r K L (Ui F (.ok a d)) [.slice (some ⟨r,0,none⟩) n K,.int .i64 (a:Int),.int .i64 (d:Int),.int .i64 F.1,.int .i64 (F.2.1:Int),.int .i64 (F.2.2:Int)]:=by
 show RPv r K L (if F.1=0 then St.ok a d else .bad F) _;by_cases h:F.1=0
 ·rw[if_pos h,hF h]
  exact RPv.mkOk hn ha hd
 ·rw[if_neg h]
  exact RPv.mkBad _ _ _ _ _ hd h
theorem Env.ne{w x:World}{bs:List Bk}{rs:List Rw}{ts:List (Ds×List Value)}(h:Env w bs rs ts x)(i j:Nat)(hij:i≠j){b c:Bk}(hi:bs[i]?=some b)(hj:bs[j]?=some c):b.1≠c.1:=by
 obtain⟨h1,e1⟩:=List.getElem?_eq_some_iff.1 hi;obtain⟨h2,e2⟩:=List.getElem?_eq_some_iff.1 hj;have hp:=List.pairwise_iff_getElem.1 h.nod;have g1:(bs.map (·.1))[i]'(by simpa using h1)=b.1:=by simp[e1]
 have g2:(bs.map (·.1))[j]'(by simpa using h2)=c.1:=by simp[e2]
 intro e;rcases Nat.lt_trichotomy i j with q | q | q
 ·exact hp i j _ _ q (by rw[g1,g2,e])
 ·exact hij q
 ·exact hp j i _ _ q (by rw[g1,g2,e])
theorem Jf(w:World)(r K:Nat)(L:List TokV)(st:St)(vs:List Value)(t:ByteArray)(ho:Zt w r K L)(hp:RPv r K L st vs) :
  Calls Tryz.prog 23 #[.agg vs.toArray,.string t] w (PPo w r K L (Zx L t st)):=by
 have T0:=Hh (Env.start w);go_enter Tryz.func23,Tryz.ntmps23;go_wp2_with(first
 |((with_reducible refine Zd 2 ?_);refine Zo T0.out 66 _ (vs) rfl rfl rfl ?_;intro w1 g0 t1
   have T1:=Hh (t1);clear t1)
 |((with_reducible refine Zd 4 ?_);refine Zc T1.out 66 _ rfl rfl z_P ?_;intro w2 g1 t2
   have T2:=Hh (t2);clear t2)
 |((with_reducible refine Zd 8 ?_);refine Zb 66 _ 66 g0 _ (T2.out.get 0 rfl) Zl (Ze hp.len) rfl rfl rfl ?_)
 |(go_at_call 51;refine(Zdv _ r K _ L st vs [t] 1 1 _ rfl rfl (ho.below T2.out.below) hp rfl (by decide)).mono ?_;rintro e w3 ⟨v3,rfl,h3,b3⟩
   have T3:=Hh (T2.out.call b3);clear b3)
 |((with_reducible refine Zd 5 ?_);refine Zc T3.out 66 _ rfl rfl z_P ?_;intro w4 g2 t4
   have T4:=Hh (t4);clear t4)
 |((with_reducible refine Zg 5 12 ?_);refine Za 66 _ _ 66 g2 _ (v3) (T4.out.get 2 rfl) h3.len (Ze h3.len) h3.one rfl rfl rfl rfl rfl ?_
   intro w5 p5;have T5:=Hh (T4.out.put 2 rfl p5);clear p5)
 |((with_reducible refine Zd 14 ?_);refine Zb 66 _ 66 g2 _ (T5.out.get 2 rfl) Zl (Ze h3.len) rfl rfl rfl ?_)
 |((with_reducible refine Zg 4 14 ?_);refine Za 66 _ _ 66 g1 _ (v3) (T5.out.get 1 rfl) h3.len (Ze h3.len) h3.one rfl rfl rfl rfl rfl ?_
   intro w6 p6;have T6:Hid (Env w [(g0,66,vs),(g1,66,v3),(g2,66,v3)] [] [] w6):=Hh (T5.out.put 1 rfl p6);clear p6))
 refine Wg 4 66 66 _ _ rfl (T6.out.get 1 rfl) Zl (Ze h3.len) rfl rfl ?_;rw[←one_want];exact⟨v3,rfl,h3,T6.out.below⟩
theorem Ziv(w:World)(r K:Nat)(L:List TokV)(st:St)(vs:List Value)(ho:Zt w r K L)(hp:RPv r K L st vs) :
  Calls Tryz.prog 108 #[.agg vs.toArray] w (PVo w r K L (Zm L Zp st) (.int .i64 (Zh L Zp st))):=by
 have T0:=Hh (Env.start w);go_enter Tryz.func108,Tryz.ntmps108;go_wp2_with(first
 |((with_reducible refine Zd 1 ?_);refine Zo T0.out 66 _ (vs) rfl rfl rfl ?_;intro w1 g0 t1
   have T1:=Hh (t1);clear t1)
 |((with_reducible refine Zd 2 ?_);refine Zc T1.out 66 _ rfl rfl z_P ?_;intro w2 g1 t2
   have T2:=Hh (t2);clear t2)
 |((with_reducible refine Zd 4 ?_);refine Zb 66 _ 66 g0 _ (T2.out.get 0 rfl) Zl (Ze hp.len) rfl rfl rfl ?_)
 |(go_at_call 51;refine(Zdv _ r K _ L st vs Zp 3 3 _ rfl rfl (ho.below T2.out.below) hp rfl (by decide)).mono ?_;rintro e w3 ⟨v3,rfl,h3,b3⟩
   have T3:=Hh (T2.out.call b3);clear b3)
 |((with_reducible refine Zg 2 7 ?_);refine Za 66 _ _ 66 g1 _ (v3) (T3.out.get 1 rfl) h3.len (Ze h3.len) h3.one rfl rfl rfl rfl rfl ?_
   intro w4 p4;have T4:Hid (Env w [(g0,66,vs),(g1,66,v3)] [] [] w4):=Hh (T3.out.put 1 rfl p4);clear p4))
 exact Xa 2 66 3 66 _ _ _ rfl (T4.out.get 1 rfl) Zl (Ze h3.len) rfl rfl rfl ⟨v3,rfl,h3,T4.out.below⟩
theorem qop(w:World)(r K:Nat)(L:List TokV)(st:St)(vs:List Value)(ho:Zt w r K L)(hp:RPv r K L st vs) :
  Calls Tryz.prog 111 #[.agg vs.toArray] w (PVo w r K L (Zm L wOp st) (.int .i64 (Zh L wOp st))):=by
 have T0:=Hh (Env.start w);go_enter Tryz.func111,Tryz.ntmps111;go_wp2_with(first
 |((with_reducible refine Zd 1 ?_);refine Zo T0.out 66 _ (vs) rfl rfl rfl ?_;intro w1 g0 t1
   have T1:=Hh (t1);clear t1)
 |((with_reducible refine Zd 2 ?_);refine Zc T1.out 66 _ rfl rfl z_P ?_;intro w2 g1 t2
   have T2:=Hh (t2);clear t2)
 |((with_reducible refine Zd 4 ?_);refine Zb 66 _ 66 g0 _ (T2.out.get 0 rfl) Zl (Ze hp.len) rfl rfl rfl ?_)
 |(go_at_call 51;refine(Zdv _ r K _ L st vs wOp 6 6 _ rfl rfl (ho.below T2.out.below) hp rfl (by decide)).mono ?_;rintro e w3 ⟨v3,rfl,h3,b3⟩
   have T3:=Hh (T2.out.call b3);clear b3)
 |((with_reducible refine Zg 2 7 ?_);refine Za 66 _ _ 66 g1 _ (v3) (T3.out.get 1 rfl) h3.len (Ze h3.len) h3.one rfl rfl rfl rfl rfl ?_
   intro w4 p4;have T4:Hid (Env w [(g0,66,vs),(g1,66,v3)] [] [] w4):=Hh (T3.out.put 1 rfl p4);clear p4))
 exact Xa 2 66 3 66 _ _ _ rfl (T4.out.get 1 rfl) Zl (Ze h3.len) rfl rfl rfl ⟨v3,rfl,h3,T4.out.below⟩
theorem Zmx(w:World)(r K:Nat)(L:List TokV)(st:St)(vs:List Value)(ho:Zt w r K L)(hp:RPv r K L st vs) :
  Calls Tryz.prog 22 #[.agg vs.toArray] w (PVo w r K L (Js L st) (.int .i64 (Zct L st))):=by
 have T0:=Hh (Env.start w);cases st with
 |ok a d=>
  obtain⟨n,hn,rfl,ha,hd⟩:=hp.ok;have hrow:=ho (by omega);have HR:=Hh hrow;have HN:=Hh (And.intro hn ha);clear ho hp hn;go_enter Tryz.func22,Tryz.ntmps22;go_wp2_with(first
 |((with_reducible refine Zd 1 ?_);refine Zo T0.out 66 _ ([.slice (some ⟨r,0,none⟩) n K,.int .i64 (a:Int),.int .i64 (d:Int),.int .i64 0,.int .i64 0,.int .i64 0]) rfl rfl rfl ?_;intro w1 g0 t1
   have T1:=Hh (t1);clear t1)
 |((with_reducible refine Zd 2 ?_);refine Zc T1.out 66 _ rfl rfl z_P ?_;intro w2 g1 t2
   have T2:=Hh (t2);obtain⟨c0,c1,c2,c3,c4,c5⟩:=Xs (T2.out.get 0 rfl);clear t2)
 |((with_reducible refine Zd 14 ?_);refine Xn 64 _ 66 g0 0 ([]) ([.slice (some ⟨r,0,none⟩) n K,.int .i64 (a:Int),.int .i64 (d:Int)]) ([.int .i64 0,.int .i64 0,.int .i64 0]) (T2.out.get 0 rfl) rfl Zay Ws rfl rfl rfl ?_)
 |(go_at_call 50;refine(qInt _ r K L n a d HN.out.1 (HR.out.below T2.out.below) HN.out.2).mono ?_;rintro e w3 ⟨rfl,b3⟩
   have T3:=Hh (T2.out.call b3);clear b3)
 |((with_reducible refine Zd 4 ?_);refine Zc T3.out 64 _ rfl rfl z_C ?_;intro w4 g2 t4
   have T4:=Hh (t4);clear t4)
 |((with_reducible refine Zd 6 ?_);refine Zc T4.out 29 _ rfl rfl z_F ?_;intro w5 g3 t5
   have T5:=Hh (t5);clear t5)
 |((with_reducible refine Zg 4 16 ?_);refine Za 64 _ _ 64 g2 _ ([.slice (some ⟨r,0,none⟩) n K,.int .i64 (Vj L a 2:Int),.int .i64 (d:Int)]) (T5.out.get 2 rfl) rfl Ws (by simp[Value.oneCell']) rfl rfl rfl rfl rfl ?_
   intro w6 p6;have T6:=Hh (T5.out.put 2 rfl p6);clear p6)
 |((with_reducible refine Zg 6 18 ?_);refine Za 29 _ _ 29 g3 _ ([.int .i64 (Xz L a 2).1,.int .i64 ((Xz L a 2).2.1:Int),.int .i64 ((Xz L a 2).2.2:Int)]) (T6.out.get 3 rfl) rfl Wr (by simp[Value.oneCell']) rfl rfl rfl rfl rfl ?_
   intro w7 p7;have T7:=Hh (T6.out.put 3 rfl p7);clear p7)
 |((with_reducible refine Zd 19 ?_);refine Zb 64 _ 64 g2 _ (T7.out.get 2 rfl) Zay Ws rfl rfl rfl ?_)
 |((with_reducible refine Zd 20 ?_);refine Zb 29 _ 29 g3 _ (T7.out.get 3 rfl) Zbn Wr rfl rfl rfl ?_)
 |((with_reducible refine Zg 2 21 ?_);refine Za 66 _ _ 66 g1 _ ([.slice (some ⟨r,0,none⟩) n K,.int .i64 (Vj L a 2:Int),.int .i64 (d:Int),.int .i64 (Xz L a 2).1,.int .i64 ((Xz L a 2).2.1:Int),.int .i64 ((Xz L a 2).2.2:Int)]) (T7.out.get 1 rfl) rfl Ya (by simp[Value.oneCell']) rfl rfl rfl rfl rfl ?_
   intro w8 p8;have T8:Hid (Env w [(g0,66,[.slice (some ⟨r,0,none⟩) n K,.int .i64 (a:Int),.int .i64 (d:Int),.int .i64 0,.int .i64 0,.int .i64 0]),(g1,66,[.slice (some ⟨r,0,none⟩) n K,.int .i64 (Vj L a 2:Int),.int .i64 (d:Int),.int .i64 (Xz L a 2).1,.int .i64 ((Xz L a 2).2.1:Int),.int .i64 ((Xz L a 2).2.2:Int)]),(g2,64,[.slice (some ⟨r,0,none⟩) n K,.int .i64 (Vj L a 2:Int),.int .i64 (d:Int)]),(g3,29,[.int .i64 (Xz L a 2).1,.int .i64 ((Xz L a 2).2.1:Int),.int .i64 ((Xz L a 2).2.2:Int)])] [] [] w8):=Hh (T7.out.put 1 rfl p8);clear p8))
  exact Xa 2 66 3 66 _ _ _ rfl (T8.out.get 1 rfl) Zl Ya rfl rfl rfl ⟨_,rfl,RPv.note (Zkr L a 2) HN.out.1 (kindA_in HR.out.ends HN.out.2 2) hd,T8.out.below⟩
 |bad F=>
  obtain⟨A,n,k,a,d,rfl,hd,hF⟩:=hp.bad;obtain⟨f0,f1,f2⟩:=F;have z0:(f0 != 0)=true:=by rw[bne_iff_ne];exact hF
  have HF:=Hh hF;clear ho hp hF;go_enter Tryz.func22,Tryz.ntmps22;go_wp2_with(first
 |((with_reducible refine Zd 1 ?_);refine Zo T0.out 66 _ ([.slice A n k,.int .i64 (a:Int),.int .i64 (d:Int),.int .i64 f0,.int .i64 (f1:Int),.int .i64 (f2:Int)]) rfl rfl rfl ?_;intro w1 g0 t1
   have T1:=Hh (t1);clear t1)
 |((with_reducible refine Zd 2 ?_);refine Zc T1.out 66 _ rfl rfl z_P ?_;intro w2 g1 t2
   have T2:=Hh (t2);obtain⟨c0,c1,c2,c3,c4,c5⟩:=Xs (T2.out.get 0 rfl);clear t2)
 |((with_reducible refine Zd 11 ?_);refine Zb 66 _ 66 g0 _ (T2.out.get 0 rfl) Zl Ya rfl rfl rfl ?_)
 |((with_reducible refine Zg 2 11 ?_);refine Za 66 _ _ 66 g1 _ ([.slice A n k,.int .i64 (a:Int),.int .i64 (d:Int),.int .i64 f0,.int .i64 (f1:Int),.int .i64 (f2:Int)]) (T2.out.get 1 rfl) rfl Ya (by simp[Value.oneCell']) rfl rfl rfl rfl rfl ?_
   intro w3 p3;have T3:Hid (Env w [(g0,66,[.slice A n k,.int .i64 (a:Int),.int .i64 (d:Int),.int .i64 f0,.int .i64 (f1:Int),.int .i64 (f2:Int)]),(g1,66,[.slice A n k,.int .i64 (a:Int),.int .i64 (d:Int),.int .i64 f0,.int .i64 (f1:Int),.int .i64 (f2:Int)])] [] [] w3):=Hh (T2.out.put 1 rfl p3);clear p3))
  exact Xa 2 66 3 66 _ _ _ rfl (T3.out.get 1 rfl) Zl Ya rfl rfl rfl ⟨_,rfl,RPv.mkBad (F:=(f0,f1,f2)) _ _ _ _ _ hd HF.out,T3.out.below⟩
theorem Zkh(w:World)(r K:Nat)(L:List TokV)(st:St)(vs:List Value)(ho:Zt w r K L)(hp:RPv r K L st vs) :
  Calls Tryz.prog 24 #[.agg vs.toArray] w (PVo w r K L (Uv L st) (.int .i64 (Jv L st))):=by
 have T0:=Hh (Env.start w);cases st with
 |ok a d=>
  obtain⟨n,hn,rfl,ha,hd⟩:=hp.ok;have hrow:=ho (by omega);have HR:=Hh hrow;have HN:=Hh (And.intro hn ha);clear ho hp hn;go_enter Tryz.func24,Tryz.ntmps24;go_wp2_with(first
 |((with_reducible refine Zd 1 ?_);refine Zo T0.out 66 _ ([.slice (some ⟨r,0,none⟩) n K,.int .i64 (a:Int),.int .i64 (d:Int),.int .i64 0,.int .i64 0,.int .i64 0]) rfl rfl rfl ?_;intro w1 g0 t1
   have T1:=Hh (t1);clear t1)
 |((with_reducible refine Zd 2 ?_);refine Zc T1.out 66 _ rfl rfl z_P ?_;intro w2 g1 t2
   have T2:=Hh (t2);obtain⟨c0,c1,c2,c3,c4,c5⟩:=Xs (T2.out.get 0 rfl);clear t2)
 |((with_reducible refine Zd 14 ?_);refine Xn 64 _ 66 g0 0 ([]) ([.slice (some ⟨r,0,none⟩) n K,.int .i64 (a:Int),.int .i64 (d:Int)]) ([.int .i64 0,.int .i64 0,.int .i64 0]) (T2.out.get 0 rfl) rfl Zay Ws rfl rfl rfl ?_)
 |(go_at_call 52;refine(qSigned _ r K L n a d HN.out.1 (HR.out.below T2.out.below) HN.out.2).mono ?_;rintro e w3 ⟨rfl,b3⟩
   have T3:=Hh (T2.out.call b3);clear b3)
 |((with_reducible refine Zd 4 ?_);refine Zc T3.out 64 _ rfl rfl z_C ?_;intro w4 g2 t4
   have T4:=Hh (t4);clear t4)
 |((with_reducible refine Zd 6 ?_);refine Zc T4.out 29 _ rfl rfl z_F ?_;intro w5 g3 t5
   have T5:=Hh (t5);clear t5)
 |((with_reducible refine Zg 4 16 ?_);refine Za 64 _ _ 64 g2 _ ([.slice (some ⟨r,0,none⟩) n K,.int .i64 (Zch L a:Int),.int .i64 (d:Int)]) (T5.out.get 2 rfl) rfl Ws (by simp[Value.oneCell']) rfl rfl rfl rfl rfl ?_
   intro w6 p6;have T6:=Hh (T5.out.put 2 rfl p6);clear p6)
 |((with_reducible refine Zg 6 18 ?_);refine Za 29 _ _ 29 g3 _ ([.int .i64 (Zak L a).1,.int .i64 ((Zak L a).2.1:Int),.int .i64 ((Zak L a).2.2:Int)]) (T6.out.get 3 rfl) rfl Wr (by simp[Value.oneCell']) rfl rfl rfl rfl rfl ?_
   intro w7 p7;have T7:=Hh (T6.out.put 3 rfl p7);clear p7)
 |((with_reducible refine Zd 19 ?_);refine Zb 64 _ 64 g2 _ (T7.out.get 2 rfl) Zay Ws rfl rfl rfl ?_)
 |((with_reducible refine Zd 20 ?_);refine Zb 29 _ 29 g3 _ (T7.out.get 3 rfl) Zbn Wr rfl rfl rfl ?_)
 |((with_reducible refine Zg 2 21 ?_);refine Za 66 _ _ 66 g1 _ ([.slice (some ⟨r,0,none⟩) n K,.int .i64 (Zch L a:Int),.int .i64 (d:Int),.int .i64 (Zak L a).1,.int .i64 ((Zak L a).2.1:Int),.int .i64 ((Zak L a).2.2:Int)]) (T7.out.get 1 rfl) rfl Ya (by simp[Value.oneCell']) rfl rfl rfl rfl rfl ?_
   intro w8 p8;have T8:Hid (Env w [(g0,66,[.slice (some ⟨r,0,none⟩) n K,.int .i64 (a:Int),.int .i64 (d:Int),.int .i64 0,.int .i64 0,.int .i64 0]),(g1,66,[.slice (some ⟨r,0,none⟩) n K,.int .i64 (Zch L a:Int),.int .i64 (d:Int),.int .i64 (Zak L a).1,.int .i64 ((Zak L a).2.1:Int),.int .i64 ((Zak L a).2.2:Int)]),(g2,64,[.slice (some ⟨r,0,none⟩) n K,.int .i64 (Zch L a:Int),.int .i64 (d:Int)]),(g3,29,[.int .i64 (Zak L a).1,.int .i64 ((Zak L a).2.1:Int),.int .i64 ((Zak L a).2.2:Int)])] [] [] w8):=Hh (T7.out.put 1 rfl p8);clear p8))
  exact Xa 2 66 3 66 _ _ _ rfl (T8.out.get 1 rfl) Zl Ya rfl rfl rfl ⟨_,rfl,RPv.note (signF_ok L a) HN.out.1 (signA_in HR.out.ends HN.out.2) hd,T8.out.below⟩
 |bad F=>
  obtain⟨A,n,k,a,d,rfl,hd,hF⟩:=hp.bad;obtain⟨f0,f1,f2⟩:=F;have z0:(f0 != 0)=true:=by rw[bne_iff_ne];exact hF
  have HF:=Hh hF;clear ho hp hF;go_enter Tryz.func24,Tryz.ntmps24;go_wp2_with(first
 |((with_reducible refine Zd 1 ?_);refine Zo T0.out 66 _ ([.slice A n k,.int .i64 (a:Int),.int .i64 (d:Int),.int .i64 f0,.int .i64 (f1:Int),.int .i64 (f2:Int)]) rfl rfl rfl ?_;intro w1 g0 t1
   have T1:=Hh (t1);clear t1)
 |((with_reducible refine Zd 2 ?_);refine Zc T1.out 66 _ rfl rfl z_P ?_;intro w2 g1 t2
   have T2:=Hh (t2);obtain⟨c0,c1,c2,c3,c4,c5⟩:=Xs (T2.out.get 0 rfl);clear t2)
 |((with_reducible refine Zd 11 ?_);refine Zb 66 _ 66 g0 _ (T2.out.get 0 rfl) Zl Ya rfl rfl rfl ?_)
 |((with_reducible refine Zg 2 11 ?_);refine Za 66 _ _ 66 g1 _ ([.slice A n k,.int .i64 (a:Int),.int .i64 (d:Int),.int .i64 f0,.int .i64 (f1:Int),.int .i64 (f2:Int)]) (T2.out.get 1 rfl) rfl Ya (by simp[Value.oneCell']) rfl rfl rfl rfl rfl ?_
   intro w3 p3;have T3:Hid (Env w [(g0,66,[.slice A n k,.int .i64 (a:Int),.int .i64 (d:Int),.int .i64 f0,.int .i64 (f1:Int),.int .i64 (f2:Int)]),(g1,66,[.slice A n k,.int .i64 (a:Int),.int .i64 (d:Int),.int .i64 f0,.int .i64 (f1:Int),.int .i64 (f2:Int)])] [] [] w3):=Hh (T2.out.put 1 rfl p3);clear p3))
  exact Xa 2 66 3 66 _ _ _ rfl (T3.out.get 1 rfl) Zl Ya rfl rfl rfl ⟨_,rfl,RPv.mkBad (F:=(f0,f1,f2)) _ _ _ _ _ hd HF.out,T3.out.below⟩
theorem qname(w:World)(r K:Nat)(L:List TokV)(st:St)(vs:List Value)(ho:Zt w r K L)(hp:RPv r K L st vs) :
  Calls Tryz.prog 21 #[.agg vs.toArray] w (PVo w r K L (Wo L st) (.string (Zbl L st))):=by
 have T0:=Hh (Env.start w);cases st with
 |ok a d=>
  obtain⟨n,hn,rfl,ha,hd⟩:=hp.ok;have hrow:=ho (by omega);have HR:=Hh hrow;have HN:=Hh (And.intro hn ha);clear ho hp hn;go_enter Tryz.func21,Tryz.ntmps21;go_wp2_with(first
 |((with_reducible refine Zd 1 ?_);refine Zo T0.out 66 _ ([.slice (some ⟨r,0,none⟩) n K,.int .i64 (a:Int),.int .i64 (d:Int),.int .i64 0,.int .i64 0,.int .i64 0]) rfl rfl rfl ?_;intro w1 g0 t1
   have T1:=Hh (t1);clear t1)
 |((with_reducible refine Zd 2 ?_);refine Zc T1.out 66 _ rfl rfl z_P ?_;intro w2 g1 t2
   have T2:=Hh (t2);obtain⟨c0,c1,c2,c3,c4,c5⟩:=Xs (T2.out.get 0 rfl);clear t2)
 |((with_reducible refine Zd 14 ?_);refine Xn 64 _ 66 g0 0 ([]) ([.slice (some ⟨r,0,none⟩) n K,.int .i64 (a:Int),.int .i64 (d:Int)]) ([.int .i64 0,.int .i64 0,.int .i64 0]) (T2.out.get 0 rfl) rfl Zay Ws rfl rfl rfl ?_)
 |(go_at_call 49;refine(qName _ r K L n a d HN.out.1 (HR.out.below T2.out.below) HN.out.2).mono ?_;rintro e w3 ⟨rfl,b3⟩
   have T3:=Hh (T2.out.call b3);clear b3)
 |((with_reducible refine Zd 4 ?_);refine Zc T3.out 64 _ rfl rfl z_C ?_;intro w4 g2 t4
   have T4:=Hh (t4);clear t4)
 |((with_reducible refine Zd 6 ?_);refine Zc T4.out 29 _ rfl rfl z_F ?_;intro w5 g3 t5
   have T5:=Hh (t5);clear t5)
 |((with_reducible refine Zg 4 16 ?_);refine Za 64 _ _ 64 g2 _ ([.slice (some ⟨r,0,none⟩) n K,.int .i64 (Vj L a 3:Int),.int .i64 (d:Int)]) (T5.out.get 2 rfl) rfl Ws (by simp[Value.oneCell']) rfl rfl rfl rfl rfl ?_
   intro w6 p6;have T6:=Hh (T5.out.put 2 rfl p6);clear p6)
 |((with_reducible refine Zg 6 18 ?_);refine Za 29 _ _ 29 g3 _ ([.int .i64 (Xz L a 3).1,.int .i64 ((Xz L a 3).2.1:Int),.int .i64 ((Xz L a 3).2.2:Int)]) (T6.out.get 3 rfl) rfl Wr (by simp[Value.oneCell']) rfl rfl rfl rfl rfl ?_
   intro w7 p7;have T7:=Hh (T6.out.put 3 rfl p7);clear p7)
 |((with_reducible refine Zd 19 ?_);refine Zb 64 _ 64 g2 _ (T7.out.get 2 rfl) Zay Ws rfl rfl rfl ?_)
 |((with_reducible refine Zd 20 ?_);refine Zb 29 _ 29 g3 _ (T7.out.get 3 rfl) Zbn Wr rfl rfl rfl ?_)
 |((with_reducible refine Zg 2 21 ?_);refine Za 66 _ _ 66 g1 _ ([.slice (some ⟨r,0,none⟩) n K,.int .i64 (Vj L a 3:Int),.int .i64 (d:Int),.int .i64 (Xz L a 3).1,.int .i64 ((Xz L a 3).2.1:Int),.int .i64 ((Xz L a 3).2.2:Int)]) (T7.out.get 1 rfl) rfl Ya (by simp[Value.oneCell']) rfl rfl rfl rfl rfl ?_
   intro w8 p8;have T8:Hid (Env w [(g0,66,[.slice (some ⟨r,0,none⟩) n K,.int .i64 (a:Int),.int .i64 (d:Int),.int .i64 0,.int .i64 0,.int .i64 0]),(g1,66,[.slice (some ⟨r,0,none⟩) n K,.int .i64 (Vj L a 3:Int),.int .i64 (d:Int),.int .i64 (Xz L a 3).1,.int .i64 ((Xz L a 3).2.1:Int),.int .i64 ((Xz L a 3).2.2:Int)]),(g2,64,[.slice (some ⟨r,0,none⟩) n K,.int .i64 (Vj L a 3:Int),.int .i64 (d:Int)]),(g3,29,[.int .i64 (Xz L a 3).1,.int .i64 ((Xz L a 3).2.1:Int),.int .i64 ((Xz L a 3).2.2:Int)])] [] [] w8):=Hh (T7.out.put 1 rfl p8);clear p8))
  exact Xa 2 66 3 66 _ _ _ rfl (T8.out.get 1 rfl) Zl Ya rfl rfl rfl ⟨_,rfl,RPv.note (Zkr L a 3) HN.out.1 (kindA_in HR.out.ends HN.out.2 3) hd,T8.out.below⟩
 |bad F=>
  obtain⟨A,n,k,a,d,rfl,hd,hF⟩:=hp.bad;obtain⟨f0,f1,f2⟩:=F;have z0:(f0 != 0)=true:=by rw[bne_iff_ne];exact hF
  have HF:=Hh hF;clear ho hp hF;go_enter Tryz.func21,Tryz.ntmps21;go_wp2_with(first
 |((with_reducible refine Zd 1 ?_);refine Zo T0.out 66 _ ([.slice A n k,.int .i64 (a:Int),.int .i64 (d:Int),.int .i64 f0,.int .i64 (f1:Int),.int .i64 (f2:Int)]) rfl rfl rfl ?_;intro w1 g0 t1
   have T1:=Hh (t1);clear t1)
 |((with_reducible refine Zd 2 ?_);refine Zc T1.out 66 _ rfl rfl z_P ?_;intro w2 g1 t2
   have T2:=Hh (t2);obtain⟨c0,c1,c2,c3,c4,c5⟩:=Xs (T2.out.get 0 rfl);clear t2)
 |((with_reducible refine Zd 11 ?_);refine Zb 66 _ 66 g0 _ (T2.out.get 0 rfl) Zl Ya rfl rfl rfl ?_)
 |((with_reducible refine Zg 2 11 ?_);refine Za 66 _ _ 66 g1 _ ([.slice A n k,.int .i64 (a:Int),.int .i64 (d:Int),.int .i64 f0,.int .i64 (f1:Int),.int .i64 (f2:Int)]) (T2.out.get 1 rfl) rfl Ya (by simp[Value.oneCell']) rfl rfl rfl rfl rfl ?_
   intro w3 p3;have T3:Hid (Env w [(g0,66,[.slice A n k,.int .i64 (a:Int),.int .i64 (d:Int),.int .i64 f0,.int .i64 (f1:Int),.int .i64 (f2:Int)]),(g1,66,[.slice A n k,.int .i64 (a:Int),.int .i64 (d:Int),.int .i64 f0,.int .i64 (f1:Int),.int .i64 (f2:Int)])] [] [] w3):=Hh (T2.out.put 1 rfl p3);clear p3))
  exact Xa 2 66 3 66 _ _ _ rfl (T3.out.get 1 rfl) Zl Ya rfl rfl rfl ⟨_,rfl,RPv.mkBad (F:=(f0,f1,f2)) _ _ _ _ _ hd HF.out,T3.out.below⟩
theorem qdeeper(w:World)(r K:Nat)(L:List TokV)(st:St)(vs:List Value)(ho:Zt w r K L)(hp:RPv r K L st vs) :
  Calls Tryz.prog 146 #[.agg vs.toArray] w (PPo w r K L (Ui (downV L st) (Zio st))):=by
 have T0:=Hh (Env.start w);cases st with
 |ok a d=>
  obtain⟨n,hn,rfl,ha,hd⟩:=hp.ok;have hrow:=ho (by omega);have HR:=Hh hrow;have HN:=Hh (And.intro hn ha);have hdd:Zbm d≤8:=by unfold Zbm;split<;>omega
  have HD:=Hh hdd;clear ho hp hn hdd;go_enter Tryz.func146,Tryz.ntmps146;go_wp2_with(first
 |((with_reducible refine Zd 1 ?_);refine Zo T0.out 66 _ ([.slice (some ⟨r,0,none⟩) n K,.int .i64 (a:Int),.int .i64 (d:Int),.int .i64 0,.int .i64 0,.int .i64 0]) rfl rfl rfl ?_;intro w1 g0 t1
   have T1:=Hh (t1);clear t1)
 |((with_reducible refine Zd 2 ?_);refine Zc T1.out 66 _ rfl rfl z_P ?_;intro w2 g1 t2
   have T2:=Hh (t2);obtain⟨c0,c1,c2,c3,c4,c5⟩:=Xs (T2.out.get 0 rfl);clear t2)
 |((with_reducible refine Zd 12 ?_);refine Xn 64 _ 66 g0 0 ([]) ([.slice (some ⟨r,0,none⟩) n K,.int .i64 (a:Int),.int .i64 (d:Int)]) ([.int .i64 0,.int .i64 0,.int .i64 0]) (T2.out.get 0 rfl) rfl Zay Ws rfl rfl rfl ?_)
 |(go_at_call 175;refine(qDown _ r K L n a d HN.out.1 (HR.out.below T2.out.below) HN.out.2 hd).mono ?_;rintro e w3 ⟨rfl,b3⟩
   have T3:=Hh (T2.out.call b3);clear b3)
 |((with_reducible refine Zd 3 ?_);refine Zc T3.out 64 _ rfl rfl z_C ?_;intro w4 g2 t4
   have T4:=Hh (t4);clear t4)
 |((with_reducible refine Zd 4 ?_);refine Zc T4.out 29 _ rfl rfl z_F ?_;intro w5 g3 t5
   have T5:=Hh (t5);clear t5)
 |((with_reducible refine Zg 3 14 ?_);refine Za 64 _ _ 64 g2 _ ([.slice (some ⟨r,0,none⟩) n K,.int .i64 (a:Int),.int .i64 (Zbm d:Int)]) (T5.out.get 2 rfl) rfl Ws (by simp[Value.oneCell']) rfl rfl rfl rfl rfl ?_
   intro w6 p6;have T6:=Hh (T5.out.put 2 rfl p6);clear p6)
 |((with_reducible refine Zg 4 15 ?_);refine Za 29 _ _ 29 g3 _ ([.int .i64 (Us L a d).1,.int .i64 ((Us L a d).2.1:Int),.int .i64 ((Us L a d).2.2:Int)]) (T6.out.get 3 rfl) rfl Wr (by simp[Value.oneCell']) rfl rfl rfl rfl rfl ?_
   intro w7 p7;have T7:=Hh (T6.out.put 3 rfl p7);clear p7)
 |((with_reducible refine Zd 16 ?_);refine Zb 64 _ 64 g2 _ (T7.out.get 2 rfl) Zay Ws rfl rfl rfl ?_)
 |((with_reducible refine Zd 17 ?_);refine Zb 29 _ 29 g3 _ (T7.out.get 3 rfl) Zbn Wr rfl rfl rfl ?_)
 |((with_reducible refine Zg 2 18 ?_);refine Za 66 _ _ 66 g1 _ ([.slice (some ⟨r,0,none⟩) n K,.int .i64 (a:Int),.int .i64 (Zbm d:Int),.int .i64 (Us L a d).1,.int .i64 ((Us L a d).2.1:Int),.int .i64 ((Us L a d).2.2:Int)]) (T7.out.get 1 rfl) rfl Ya (by simp[Value.oneCell']) rfl rfl rfl rfl rfl ?_
   intro w8 p8;have T8:Hid (Env w [(g0,66,[.slice (some ⟨r,0,none⟩) n K,.int .i64 (a:Int),.int .i64 (d:Int),.int .i64 0,.int .i64 0,.int .i64 0]),(g1,66,[.slice (some ⟨r,0,none⟩) n K,.int .i64 (a:Int),.int .i64 (Zbm d:Int),.int .i64 (Us L a d).1,.int .i64 ((Us L a d).2.1:Int),.int .i64 ((Us L a d).2.2:Int)]),(g2,64,[.slice (some ⟨r,0,none⟩) n K,.int .i64 (a:Int),.int .i64 (Zbm d:Int)]),(g3,29,[.int .i64 (Us L a d).1,.int .i64 ((Us L a d).2.1:Int),.int .i64 ((Us L a d).2.2:Int)])] [] [] w8):=Hh (T7.out.put 1 rfl p8);clear p8))
  exact Wg 2 66 66 _ _ rfl (T8.out.get 1 rfl) Zl Ya rfl rfl ⟨_,rfl,RPv.note (downF_ok L a d) HN.out.1 HN.out.2 HD.out,T8.out.below⟩
 |bad F=>
  obtain⟨A,n,k,a,d,rfl,hd,hF⟩:=hp.bad;obtain⟨f0,f1,f2⟩:=F;have z0:(f0 != 0)=true:=by rw[bne_iff_ne];exact hF
  have HF:=Hh hF;clear ho hp hF;go_enter Tryz.func146,Tryz.ntmps146;go_wp2_with(first
 |((with_reducible refine Zd 1 ?_);refine Zo T0.out 66 _ ([.slice A n k,.int .i64 (a:Int),.int .i64 (d:Int),.int .i64 f0,.int .i64 (f1:Int),.int .i64 (f2:Int)]) rfl rfl rfl ?_;intro w1 g0 t1
   have T1:=Hh (t1);clear t1)
 |((with_reducible refine Zd 2 ?_);refine Zc T1.out 66 _ rfl rfl z_P ?_;intro w2 g1 t2
   have T2:=Hh (t2);obtain⟨c0,c1,c2,c3,c4,c5⟩:=Xs (T2.out.get 0 rfl);clear t2)
 |((with_reducible refine Zd 9 ?_);refine Zb 66 _ 66 g0 _ (T2.out.get 0 rfl) Zl Ya rfl rfl rfl ?_)
 |((with_reducible refine Zg 2 9 ?_);refine Za 66 _ _ 66 g1 _ ([.slice A n k,.int .i64 (a:Int),.int .i64 (d:Int),.int .i64 f0,.int .i64 (f1:Int),.int .i64 (f2:Int)]) (T2.out.get 1 rfl) rfl Ya (by simp[Value.oneCell']) rfl rfl rfl rfl rfl ?_
   intro w3 p3;have T3:Hid (Env w [(g0,66,[.slice A n k,.int .i64 (a:Int),.int .i64 (d:Int),.int .i64 f0,.int .i64 (f1:Int),.int .i64 (f2:Int)]),(g1,66,[.slice A n k,.int .i64 (a:Int),.int .i64 (d:Int),.int .i64 f0,.int .i64 (f1:Int),.int .i64 (f2:Int)])] [] [] w3):=Hh (T2.out.put 1 rfl p3);clear p3))
  exact Wg 2 66 66 _ _ rfl (T3.out.get 1 rfl) Zl Ya rfl rfl ⟨_,rfl,RPv.mkBad (F:=(f0,f1,f2)) _ _ _ _ _ hd HF.out,T3.out.below⟩
end Go.Proofs.YtdngkgickbaboaaGreat
