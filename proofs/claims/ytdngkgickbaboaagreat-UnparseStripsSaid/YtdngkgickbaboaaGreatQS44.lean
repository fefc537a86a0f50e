/-
  No conditions but those that each theorem names.
-/
import Derived.Test.YtdngkgickbaboaaGreatQS42
set_option maxRecDepth 20000
set_option maxHeartbeats 12800000
namespace Go.Proofs.YtdngkgickbaboaaGreat
open Go.ChangeShapes Go.WideShapes Go.ChangeAt Go.RowKit
set_option linter.unusedVariables false
set_option linter.unusedSimpArgs false
theorem sSame(pl:Bool)(x y:Fi)(w:World)(N M:Nat→Prop)(vs us:List Value)(hs:FiSim pl x y)(h1:Zn N w x.ds vs)(h2:Zn M w y.ds us) :
  Calls Tryz.prog 14 #[.agg vs.toArray,.agg us.toArray,.bool pl] w fun e w'=>e=.returned (.bool true)∧Below w.heap.size w w':=by
 obtain⟨A,c,xs,_,rfl,hn,hA,hx,A',c',xs',_,rfl,hn',hA',hx',rfl⟩:=h1;obtain⟨B,d,ys,_,rfl,_,hB,hy,B',d',ys',_,rfl,_,hB',hy',rfl⟩:=h2;have hl1:=hs.1.len;have hl2:=hs.2.len;rw[←hl1,←hl2];have T0:=Hh (Env.start w);have HA:=Hh (And.intro hA hx);have HB:=Hh (And.intro hB hy);have HA':=Hh (And.intro hA' hx');have HB':=Hh (And.intro hB' hy');have HM:=Hh (And.intro hs (And.intro hl1 hl2));clear hA hx hB hy hs hl1 hl2 hA' hx' hB' hy';obtain⟨n,hn0⟩:∃ n,n=x.cards.length:=⟨_,rfl⟩
 obtain⟨n',hn0'⟩:∃ n,n=x.places.length:=⟨_,rfl⟩
 rw[←hn0]at hn ⊢;rw[←hn0']at hn' ⊢;have HN:=Hh hn0;have HN':=Hh hn0';clear hn0 hn0';go_enter Tryz.func14,Tryz.ntmps14;go_wp2_with(first
 |((with_reducible refine Zd 3 ?_);refine Zo T0.out 26 _ ([.slice A n c,.slice A' n' c']) rfl rfl rfl ?_;intro w1 g0 t1
   have T1:Hid (Env w [(g0,26,[.slice A n c,.slice A' n' c'])] [] [] w1):=Hh t1;clear t1)
 |((with_reducible refine Zd 4 ?_);refine Zo T1.out 26 _ ([.slice B n d,.slice B' n' d']) rfl rfl rfl ?_;intro w2 g1 t2
   have T2:Hid (Env w [(g0,26,[.slice A n c,.slice A' n' c']),(g1,26,[.slice B n d,.slice B' n' d'])] [] [] w2):=Hh t2;have a0:=T2.out.cell 0 0 rfl rfl;have a1:=T2.out.cell 0 1 rfl rfl;have b0:=T2.out.cell 1 0 rfl rfl;have b1:=T2.out.cell 1 1 rfl rfl;clear t2))
 go_loopw [7] (fun i wr=>∃ m:Nat,i=.int .i64 m∧m≤n∧Env w [(g0,26,[.slice A n c,.slice A' n' c']),(g1,26,[.slice B n d,.slice B' n' d'])] [] [] wr) (fun i _=>n - (intOf i).toNat)
 case atStart=>exact⟨0,rfl,by omega,T2.out⟩
 case round=>
  obtain⟨m,rfl,hm,hE0⟩:=hrel;by_cases hml:m<n
  · have hk1:m<x.cards.length:=by rw[←HN.out];exact hml
    have hk2:m<y.cards.length:=by rw[←HM.out.2.1,←HN.out];exact hml
    obtain⟨g,av,rfl,hx1,xr,dx⟩:=Zll Ca.ds Zaa (fun _ _=>rfl) 6 (by decide) (fun _=>rfl) (HA.out.1.keeps (Zq.of_below (S:=fun _=>False) hE0.below) (fun k _ hn=>⟨id,hn⟩)) (HA.out.2.below hE0.below) hk1;obtain⟨h,bv,rfl,hy1,yr,dy⟩:=Zll Ca.ds Zaa (fun _ _=>rfl) 6 (by decide) (fun _=>rfl) (HB.out.1.keeps (Zq.of_below (S:=fun _=>False) hE0.below) (fun k _ hn=>⟨id,hn⟩)) (HB.out.2.below hE0.below) hk2;have sim:=Zez.at_ HM.out.1.1 m hk1 hk2;generalize x.cards[m]=u at *;generalize y.cards[m]=u' at *;clear hk1 hk2;obtain⟨a1,a2,a3,l1,l2,a5⟩:=u;obtain⟨b1,b2,b3,m1,m2,b5⟩:=u';obtain⟨s1,s2,s3,simP,sima⟩:=sim;dsimp only at s1 s2 s3 simP sima;subst s1 s2 s3;obtain⟨_,rfl,_,rfl,_,rfl,_,rfl,_,rfl,dx5⟩:=dx;obtain⟨A5,k5,_,rfl,_⟩:=id dx5.inRow1;obtain⟨_,rfl,_,rfl,_,rfl,_,rfl,_,rfl,dy5⟩:=dy;obtain⟨B5,j5,_,rfl,_⟩:=id dy5.inRow1;dsimp only at *;have hact:∀ z,Below wr.heap.size wr z→Calls Tryz.prog 39 #[.slice A5 a5.length k5,.slice B5 b5.length j5,.bool pl] z fun e w'=>e=.returned (.bool true)∧Below z.heap.size z w':=fun z hb=>sRules pl a5 b5 z N M _ _ sima (dx5.below hb) (dy5.below hb)
    generalize a5.length=q1 at *;generalize b5.length=q2 at *;clear dx5 dy5 sima;have lk:(m:Int)<(n:Int):=by omega
    have lk0:(0:Int)≤(m:Int):=by omega
    have hkn:((m:Int)).toNat=m:=by omega
    have hSP:=Hh simP;have c0x:=hE0.cell 0 0 rfl rfl;have c0y:=hE0.cell 1 0 rfl rfl;have hi0:=(hE0.get 0 rfl).inside;have hi1:=(hE0.get 1 rfl).inside;clear simP;go_wp2_with fail
    refine wp_region_noPanic (wp_region_held_drew (S:=fun y=>Below wr.heap.size wr y) (by kernel_rfl) (Env.start wr).drew.below fun hS=>?_);refine Xb (i:=0) (v:=.pointer (some ⟨g0,0,none⟩)) rfl rfl (by kernel_rfl) (by kernel_rfl) (by kernel_rfl) (fun _ _ _ h=>h) (.inl ⟨Yu rfl,fun y hy=>by kernel_rfl⟩) hS ?_;simp only[Qy,Qx];refine Xb (i:=1) (v:=.slice (some ⟨g,0,none⟩) n c) rfl rfl (by kernel_rfl) (by kernel_rfl) (by kernel_rfl) (fun _ _ _ h=>h) (.inl ⟨Yu rfl,fun y hy=>by have c_:=(hy.cell (p:=⟨g0,0,none⟩) hi0).trans c0x;go_simp⟩) hS ?_;simp only[Qy,Qx];refine Xb (i:=2) (v:=.int .i64 (m:Int)) rfl rfl (by kernel_rfl) (by kernel_rfl) (by kernel_rfl) (fun _ _ _ h=>h) (Uf rfl rfl rfl) hS ?_;simp only[Qy,Qx];refine Xb (i:=3) (v:=.pointer (some ⟨g,m*6,none⟩)) rfl rfl (by kernel_rfl) (by kernel_rfl) (by kernel_rfl) (fun _ _ _ h=>h) (Ju rfl rfl rfl rfl hml Zgh Zfd) hS ?_;simp only[Qy,Qx];refine Xb (i:=4) (v:=.agg ([.string a1,.int .i64 a2,.int .i64 a3,.int .i64 l1,.int .i64 l2,.slice A5 q1 k5]).toArray) rfl rfl (by kernel_rfl) (by kernel_rfl) (by kernel_rfl) (fun _ _ _ h=>h) (Ji rfl rfl rfl (fun y hy=>Vl xr hx1 hy) row_ca Zfd) hS ?_;simp only[Qy,Qx];refine Xb (i:=5) (v:=.pointer (some ⟨g1,0,none⟩)) rfl rfl (by kernel_rfl) (by kernel_rfl) (by kernel_rfl) (fun _ _ _ h=>h) (.inl ⟨Yu rfl,fun y hy=>by kernel_rfl⟩) hS ?_;simp only[Qy,Qx];refine Xb (i:=6) (v:=.slice (some ⟨h,0,none⟩) n d) rfl rfl (by kernel_rfl) (by kernel_rfl) (by kernel_rfl) (fun _ _ _ h=>h) (.inl ⟨Yu rfl,fun y hy=>by have c_:=(hy.cell (p:=⟨g1,0,none⟩) hi1).trans c0y;go_simp⟩) hS ?_;simp only[Qy,Qx];refine Xb (i:=7) (v:=.int .i64 (m:Int)) rfl rfl (by kernel_rfl) (by kernel_rfl) (by kernel_rfl) (fun _ _ _ h=>h) (Uf rfl rfl rfl) hS ?_;simp only[Qy,Qx];refine Xb (i:=8) (v:=.pointer (some ⟨h,m*6,none⟩)) rfl rfl (by kernel_rfl) (by kernel_rfl) (by kernel_rfl) (fun _ _ _ h=>h) (Ju rfl rfl rfl rfl hml Zgh Zfd) hS ?_;simp only[Qy,Qx];refine Xb (i:=9) (v:=.agg ([.string a1,.int .i64 a2,.int .i64 a3,.int .i64 m1,.int .i64 m2,.slice B5 q2 j5]).toArray) rfl rfl (by kernel_rfl) (by kernel_rfl) (by kernel_rfl) (fun _ _ _ h=>h) (Ji rfl rfl rfl (fun y hy=>Vl yr hy1 hy) row_ca Zfd) hS ?_;simp only[Qy,Qx]
    refine tail4 (x:=wr) (iA:=10) (iB:=11) (iC:=12) (iD:=13) (T:=35) (z:=[.string ⟨#[]⟩,.int .i64 0,.int .i64 0,.int .i64 0,.int .i64 0,.slice none 0 0]) (xs:=([.string a1,.int .i64 a2,.int .i64 a3,.int .i64 l1,.int .i64 l2,.slice A5 q1 k5])) (ys:=([.string a1,.int .i64 a2,.int .i64 a3,.int .i64 m1,.int .i64 m2,.slice B5 q2 j5])) (a1:=8) (a2:=9) (v1:=40) (v2:=45)
     (by kernel_rfl) (by kernel_rfl) (by kernel_rfl) (by kernel_rfl) (by kernel_rfl) (by kernel_rfl) (by kernel_rfl) (by kernel_rfl) (by kernel_rfl)
     rfl rfl rfl rfl rfl rfl rfl rfl rfl rfl rfl rfl rfl rfl rfl rfl (by decide) z_ca Zfd rfl rfl (by simp[Value.oneCell']) (by simp[Value.oneCell']) (fun p q=>⟨rfl,rfl,rfl,rfl⟩) (Env.start wr).drew fun y p q hE=>Zcm (Zkm ?_)
    simp only[Qy,Qx];have T5:Hid (Env wr [(p,35,[.string a1,.int .i64 a2,.int .i64 a3,.int .i64 l1,.int .i64 l2,.slice A5 q1 k5]),(q,35,[.string a1,.int .i64 a2,.int .i64 a3,.int .i64 m1,.int .i64 m2,.slice B5 q2 j5])] [] [] y):=Hh hE;have px0:=T5.out.cell 0 0 rfl rfl;have px1:=T5.out.cell 0 1 rfl rfl;have px2:=T5.out.cell 0 2 rfl rfl;have px3:=T5.out.cell 0 3 rfl rfl;have px4:=T5.out.cell 0 4 rfl rfl;have px5:=T5.out.cell 0 5 rfl rfl;have py0:=T5.out.cell 1 0 rfl rfl;have py1:=T5.out.cell 1 1 rfl rfl;have py2:=T5.out.cell 1 2 rfl rfl;have py3:=T5.out.cell 1 3 rfl rfl;have py4:=T5.out.cell 1 4 rfl rfl;have py5:=T5.out.cell 1 5 rfl rfl;have HE0:=Hh hE0;clear hE hE0 hS;have hcmp:(pl=true→l1=m1∧l2=m2):=hSP.out;cases pl
    ·clear hcmp
     go_wp2_with(first
 |(go_at_call 39;(with_reducible refine(hact _ T5.out.below).mono ?_);rintro e w6 ⟨rfl,b6⟩
   have T6:Hid (Env wr [(p,35,[.string a1,.int .i64 a2,.int .i64 a3,.int .i64 l1,.int .i64 l2,.slice A5 q1 k5]),(q,35,[.string a1,.int .i64 a2,.int .i64 a3,.int .i64 m1,.int .i64 m2,.slice B5 q2 j5])] [] [] w6):=Hh (T5.out.call b6)
   clear b6))
     go_roundw
     case rel=>exact⟨m+1,by go_num,by omega,HE0.out.call T6.out.below⟩
     case measure=>simp[intOf];omega
    ·obtain⟨e1,e2⟩:=hcmp rfl
     subst e1 e2;clear hcmp;go_wp2_with(first
 |(go_at_call 39;(with_reducible refine(hact _ T5.out.below).mono ?_);rintro e w6 ⟨rfl,b6⟩
   have T6:Hid (Env wr [(p,35,[.string a1,.int .i64 a2,.int .i64 a3,.int .i64 l1,.int .i64 l2,.slice A5 q1 k5]),(q,35,[.string a1,.int .i64 a2,.int .i64 a3,.int .i64 l1,.int .i64 l2,.slice B5 q2 j5])] [] [] w6):=Hh (T5.out.call b6)
   clear b6))
     go_roundw
     case rel=>exact⟨m+1,by go_num,by omega,HE0.out.call T6.out.below⟩
     case measure=>simp[intOf];omega
  · have c0x:=hE0.cell 0 0 rfl rfl
    go_wp2
    go_loopw [10] (fun i wr=>∃ m:Nat,i=.int .i64 m∧m≤n'∧Env w [(g0,26,[.slice A n c,.slice A' n' c']),(g1,26,[.slice B n d,.slice B' n' d'])] [] [] wr) (fun i _=>n' - (intOf i).toNat)
    case atStart=>exact⟨0,rfl,by omega,hE0⟩
    case round=>
     clear hE0 hm c0x;obtain⟨m,rfl,hm,hE0⟩:=hrel;by_cases hml:m<n'
     ·have hk1:m<x.places.length:=by rw[←HN'.out];exact hml
      have hk2:m<y.places.length:=by rw[←HM.out.2.2,←HN'.out];exact hml
      obtain⟨g,av,rfl,hx1,xr,dx⟩:=Zll Pl.ds Jx (fun _ _=>rfl) 4 (by decide) (fun _=>rfl) (HA'.out.1.keeps (Zq.of_below (S:=fun _=>False) hE0.below) (fun k _ hn=>⟨id,hn⟩)) (HA'.out.2.below hE0.below) hk1;obtain⟨h,bv,rfl,hy1,yr,dy⟩:=Zll Pl.ds Jx (fun _ _=>rfl) 4 (by decide) (fun _=>rfl) (HB'.out.1.keeps (Zq.of_below (S:=fun _=>False) hE0.below) (fun k _ hn=>⟨id,hn⟩)) (HB'.out.2.below hE0.below) hk2;have sim:=Zey.at_ HM.out.1.2 m hk1 hk2;generalize x.places[m]=u at *;generalize y.places[m]=u' at *;clear hk1 hk2;obtain⟨a1,l1,l2,a5⟩:=u;obtain⟨b1,m1,m2,b5⟩:=u';obtain⟨s1,simP,sima⟩:=sim;dsimp only at s1 simP sima;subst s1;obtain⟨_,rfl,_,rfl,_,rfl,dx5⟩:=dx;obtain⟨A5,k5,_,rfl,_⟩:=id dx5.inRow1;obtain⟨_,rfl,_,rfl,_,rfl,dy5⟩:=dy;obtain⟨B5,j5,_,rfl,_⟩:=id dy5.inRow1;dsimp only at *;have hact:∀ z,Below wr.heap.size wr z→Calls Tryz.prog 39 #[.slice A5 a5.length k5,.slice B5 b5.length j5,.bool pl] z fun e w'=>e=.returned (.bool true)∧Below z.heap.size z w':=fun z hb=>sRules pl a5 b5 z N M _ _ sima (dx5.below hb) (dy5.below hb)
      generalize a5.length=q1 at *;generalize b5.length=q2 at *;clear dx5 dy5 sima;have lk:(m:Int)<(n':Int):=by omega
      have lk0:(0:Int)≤(m:Int):=by omega
      have hkn:((m:Int)).toNat=m:=by omega
      have hSP:=Hh simP;have c1x:=hE0.cell 0 1 rfl rfl;have c1y:=hE0.cell 1 1 rfl rfl;have hi0:=(hE0.get 0 rfl).inside;have hi1:=(hE0.get 1 rfl).inside;clear simP;go_wp2_with fail
      refine wp_region_noPanic (wp_region_held_drew (S:=fun y=>Below wr.heap.size wr y) (by kernel_rfl) (Env.start wr).drew.below fun hS=>?_);refine Xb (i:=0) (v:=.pointer (some ⟨g0,1,none⟩)) rfl rfl (by kernel_rfl) (by kernel_rfl) (by kernel_rfl) (fun _ _ _ h=>h) (.inl ⟨Yu rfl,fun y hy=>by kernel_rfl⟩) hS ?_;simp only[Qy,Qx];refine Xb (i:=1) (v:=.slice (some ⟨g,0,none⟩) n' c') rfl rfl (by kernel_rfl) (by kernel_rfl) (by kernel_rfl) (fun _ _ _ h=>h) (.inl ⟨Yu rfl,fun y hy=>by have c_:=(hy.cell (p:=⟨g0,1,none⟩) hi0).trans c1x;go_simp⟩) hS ?_;simp only[Qy,Qx];refine Xb (i:=2) (v:=.int .i64 (m:Int)) rfl rfl (by kernel_rfl) (by kernel_rfl) (by kernel_rfl) (fun _ _ _ h=>h) (Uf rfl rfl rfl) hS ?_;simp only[Qy,Qx];refine Xb (i:=3) (v:=.pointer (some ⟨g,m*4,none⟩)) rfl rfl (by kernel_rfl) (by kernel_rfl) (by kernel_rfl) (fun _ _ _ h=>h) (Ju rfl rfl rfl rfl hml Zgg Zjz) hS ?_;simp only[Qy,Qx];refine Xb (i:=4) (v:=.agg ([.string a1,.int .i64 l1,.int .i64 l2,.slice A5 q1 k5]).toArray) rfl rfl (by kernel_rfl) (by kernel_rfl) (by kernel_rfl) (fun _ _ _ h=>h) (Ji rfl rfl rfl (fun y hy=>Vl xr hx1 hy) row_pl Zjz) hS ?_;simp only[Qy,Qx];refine Xb (i:=5) (v:=.pointer (some ⟨g1,1,none⟩)) rfl rfl (by kernel_rfl) (by kernel_rfl) (by kernel_rfl) (fun _ _ _ h=>h) (.inl ⟨Yu rfl,fun y hy=>by kernel_rfl⟩) hS ?_;simp only[Qy,Qx];refine Xb (i:=6) (v:=.slice (some ⟨h,0,none⟩) n' d') rfl rfl (by kernel_rfl) (by kernel_rfl) (by kernel_rfl) (fun _ _ _ h=>h) (.inl ⟨Yu rfl,fun y hy=>by have c_:=(hy.cell (p:=⟨g1,1,none⟩) hi1).trans c1y;go_simp⟩) hS ?_;simp only[Qy,Qx];refine Xb (i:=7) (v:=.int .i64 (m:Int)) rfl rfl (by kernel_rfl) (by kernel_rfl) (by kernel_rfl) (fun _ _ _ h=>h) (Uf rfl rfl rfl) hS ?_;simp only[Qy,Qx];refine Xb (i:=8) (v:=.pointer (some ⟨h,m*4,none⟩)) rfl rfl (by kernel_rfl) (by kernel_rfl) (by kernel_rfl) (fun _ _ _ h=>h) (Ju rfl rfl rfl rfl hml Zgg Zjz) hS ?_;simp only[Qy,Qx];refine Xb (i:=9) (v:=.agg ([.string a1,.int .i64 m1,.int .i64 m2,.slice B5 q2 j5]).toArray) rfl rfl (by kernel_rfl) (by kernel_rfl) (by kernel_rfl) (fun _ _ _ h=>h) (Ji rfl rfl rfl (fun y hy=>Vl yr hy1 hy) row_pl Zjz) hS ?_;simp only[Qy,Qx]
      refine tail4 (x:=wr) (iA:=10) (iB:=11) (iC:=12) (iD:=13) (T:=38) (z:=[.string ⟨#[]⟩,.int .i64 0,.int .i64 0,.slice none 0 0]) (xs:=([.string a1,.int .i64 l1,.int .i64 l2,.slice A5 q1 k5])) (ys:=([.string a1,.int .i64 m1,.int .i64 m2,.slice B5 q2 j5])) (a1:=11) (a2:=12) (v1:=102) (v2:=107)
       (by kernel_rfl) (by kernel_rfl) (by kernel_rfl) (by kernel_rfl) (by kernel_rfl) (by kernel_rfl) (by kernel_rfl) (by kernel_rfl) (by kernel_rfl)
       rfl rfl rfl rfl rfl rfl rfl rfl rfl rfl rfl rfl rfl rfl rfl rfl (by decide) z_pl Zjz rfl rfl (by simp[Value.oneCell']) (by simp[Value.oneCell']) (fun p q=>⟨rfl,rfl,rfl,rfl⟩) (Env.start wr).drew fun y p q hE=>Zcm (Zkm ?_)
      simp only[Qy,Qx];have T5:Hid (Env wr [(p,38,[.string a1,.int .i64 l1,.int .i64 l2,.slice A5 q1 k5]),(q,38,[.string a1,.int .i64 m1,.int .i64 m2,.slice B5 q2 j5])] [] [] y):=Hh hE;have px0:=T5.out.cell 0 0 rfl rfl;have px1:=T5.out.cell 0 1 rfl rfl;have px2:=T5.out.cell 0 2 rfl rfl;have px3:=T5.out.cell 0 3 rfl rfl;have py0:=T5.out.cell 1 0 rfl rfl;have py1:=T5.out.cell 1 1 rfl rfl;have py2:=T5.out.cell 1 2 rfl rfl;have py3:=T5.out.cell 1 3 rfl rfl;have HE0:=Hh hE0;clear hE hE0 hS;have hcmp:(pl=true→l1=m1∧l2=m2):=hSP.out;cases pl
      ·clear hcmp
       go_wp2_with(first
 |(go_at_call 39;(with_reducible refine(hact _ T5.out.below).mono ?_);rintro e w6 ⟨rfl,b6⟩
   have T6:Hid (Env wr [(p,38,[.string a1,.int .i64 l1,.int .i64 l2,.slice A5 q1 k5]),(q,38,[.string a1,.int .i64 m1,.int .i64 m2,.slice B5 q2 j5])] [] [] w6):=Hh (T5.out.call b6)
   clear b6))
       go_roundw
       case rel=>exact⟨m+1,by go_num,by omega,HE0.out.call T6.out.below⟩
       case measure=>simp[intOf];omega
      ·obtain⟨e1,e2⟩:=hcmp rfl
       subst e1 e2;clear hcmp;go_wp2_with(first
 |(go_at_call 39;(with_reducible refine(hact _ T5.out.below).mono ?_);rintro e w6 ⟨rfl,b6⟩
   have T6:Hid (Env wr [(p,38,[.string a1,.int .i64 l1,.int .i64 l2,.slice A5 q1 k5]),(q,38,[.string a1,.int .i64 l1,.int .i64 l2,.slice B5 q2 j5])] [] [] w6):=Hh (T5.out.call b6)
   clear b6))
       go_roundw
       case rel=>exact⟨m+1,by go_num,by omega,HE0.out.call T6.out.below⟩
       case measure=>simp[intOf];omega
     ·have c1x:=hE0.cell 0 1 rfl rfl
      go_wp2
      go_ret;exact⟨rfl,hE0.below⟩
end Go.Proofs.YtdngkgickbaboaaGreat
