/-
  No conditions but those that each theorem names.
-/
import Derived.Test.YtljdgdphldckhaaGreatQV20
set_option maxRecDepth 20000
set_option maxHeartbeats 12800000
namespace Go.Proofs.YtljdgdphldckhaaGreat
open Go Go.RowKit
set_option linter.unusedVariables false
set_option linter.unusedSimpArgs false
theorem lrow_ru:(Tryz.prog.underlying 66).map TypeDesc.isRow=some true:=by kernel_rfl
theorem lsize_ru:(Tryz.prog.info? 66).map (·.size)=some 5:=by kernel_rfl
theorem lz_ru:(Tryz.prog.info? 66).map (fun i=>i.zero.map Value.cells)=some (some ([.int .i64 0,.int .i64 0,.int .i64 0,.int .i64 0,.slice none 0 0]:List Value).toArray):=by kernel_rfl
theorem lz_sc:(Tryz.prog.info? 194).map (fun i=>i.zero.map Value.cells)=some (some ([.int .i64 0,.int .i64 0,.int .i64 0,.int .i64 0,.slice none 0 0,.bool false,.bool false]:List Value).toArray):=by kernel_rfl
theorem rus_at{N:Nat→Prop}{w:World}:∀{l:List Ru}{xs:List Value},Deep N w (rusDs l) xs→∀(k:Nat)(hk:k<l.length),∃ pre ys post,xs=pre++ys++post∧pre.length=k*5∧Deep N w (l[k]'hk).ds ys
 |[],xs,_,k,hk=>by cases hk
 |x::r,xs,h,k,hk=>by
  obtain⟨a,b,rfl,h1,h2⟩:=Deep.split (x:=x.ds) h;cases k with
  |zero=>exact⟨[],a,b,rfl,by simp,h1⟩
  |succ k=>
   obtain⟨pre,ys,post,rfl,hp,hy⟩:=rus_at h2 k (by simpa using hk);have hl:a.length=5:=by rw[h1.len];rfl
   exact⟨a++pre,ys,post,by simp,by rw[List.length_append,hp,hl];omega,hy⟩
theorem lRules_drop(p:Bool)(l:List Ru)(m:Nat)(h:m<l.length):Vu p m (l.drop m)=if(Zcl p m (l[m]'h)).1=0 then Vu p (m+1) (l.drop (m+1))else Zcl p m (l[m]'h):=by
 rw[List.drop_eq_getElem_cons h];rfl
theorem lRules_any (p:Bool)(l:List Ru)(w:World)(N:Nat→Prop)(v:Value)(hv:Deep N w (.row l.length (rusDs l) .nil) [v]) :
   Calls Tryz.prog 92 #[v,.bool p] w fun e w'=>e=.returned (faV (Vu p 0 l))∧Below w.heap.size w w':=by
 obtain⟨B,bc,xs,rfl,hn,hw,hd⟩:=hv.inRow;clear hv;obtain⟨n,hn0⟩:∃ n,n=l.length:=⟨_,rfl⟩
 rw[←hn0]at hn ⊢;have HN:=Hh hn0;have HW:=Hh (And.intro hw hd);obtain⟨R,hR⟩:∃ R,R=Vu p 0 l:=⟨_,rfl⟩
 rw[←hR];have HV:=Hh hR;clear hw hd hn0 hR;have l63:(n:Int)≤9223372036854775807:=by omega
 obtain⟨place,hpl⟩:∃ q,q=p:=⟨_,rfl⟩
 subst hpl;have T:=Hh (Env.start w);go_enter Tryz.func92,Tryz.ntmps92;go_wp2_with(((with_reducible refine at_ld 4 ?_);refine wpList_allocE T.out 29 _ rfl rfl Uv ?_;intro wa g1 tn;have T:=Hh tn;clear tn))
 go_loopw [11] (fun i wy=>∃ m:Nat,i=.int .i64 m∧m≤n∧Env w [(g1,29,[.int .i64 0,.int .i64 0,.int .i64 0])] [] [] wy∧Hid (R=Vu place m (l.drop m))) (fun i _=>n - (intOf i).toNat)
 case atStart=>exact⟨0,by go_num,Nat.zero_le _,T.out,Hh (by rw[HV.out];rfl)⟩
 case round=>
   obtain⟨m,rfl,hm,hT,hz⟩:=hrel;have T:=Hh hT;clear hT;by_cases hlt:m<n
   · have hk1:m<l.length:=by rw[←HN.out];exact hlt
     obtain⟨pre,ys,post,hxs,hp,hy⟩:=rus_at HW.out.2 m hk1;have hyl:ys.length=5:=by rw[hy.len];rfl
     obtain⟨g,rfl,hg,hc⟩:=HW.out.1.reads (by rw[hxs];simp;omega);have hz2:=hz.out;rw[lRules_drop _ l m hk1]at hz2;have hR:w.rangeAt g (m*5) ys:=Zau (by rw[hxs]at hc;exact hc) hp;generalize l[m]=r at *;obtain⟨whn,rst,rln,rcl,acts⟩:=r;obtain⟨_,rfl,_,rfl,_,rfl,_,rfl,D,rk,zs,_,rfl,hnn,hwz,hdz,rfl⟩:=hy;have hrow:Deep N w (.row acts.len acts.ds .nil) [.slice D acts.len rk]:=⟨D,rk,zs,[],rfl,hnn,hwz,hdz,rfl⟩
     have hbe:=fun x=>lBefore_any ⟨place,whn,false⟩ rst rln rcl D acts.len rk (m:Int) x
     have hfa:=fun e x=>lFault_any ⟨place,whn,false⟩ rst rln rcl D acts.len rk e x
     have hac:=fun x (hb:Below w.heap.size w x)=>lActs_ok acts ⟨place,whn,false⟩ rst rln rcl D acts.len rk x N _ (hrow.below hb)
     have hbh:=fun x (hb:Below w.heap.size w x)=>lBehind_any ⟨place,whn,false⟩ rst rln rcl D acts.len rk acts x N (hrow.below hb)
     have hru:Zcl place m ⟨whn,rst,rln,rcl,acts⟩=Ve [atF (Zcm place m ⟨whn,rst,rln,rcl,.nil⟩) rln rcl,Vr ⟨place,whn,false⟩ 0 acts,atF (if 96<Go.Proofs.YtljdgdphldckhaaGreat.wr (acsZ acts)then 3 else 0) rln rcl]:=by
       rw[orF3];rfl
     dsimp only[scL]at hbe hfa hac hbh;generalize Zcm place m ⟨whn,rst,rln,rcl,.nil⟩=e1 at *;generalize Vr ⟨place,whn,false⟩ 0 acts=F2 at *;generalize(if 96<Go.Proofs.YtljdgdphldckhaaGreat.wr (acsZ acts)then(3:Int)else 0)=e3 at *;have hf1:=hfa e1;have hf3:=hfa e3;generalize atF e1 rln rcl=F1 at *;generalize atF e3 rln rcl=F3 at *;have hof:=fun x g (hW:Zb x g 29 ([F1,F2,F3].flatMap faL).toArray)=>lOrF [F1,F2,F3] 3 3 g x rfl (by omega) hW
     rw[←hru]at hof;generalize Zcl place m ⟨whn,rst,rln,rcl,acts⟩=X at *;obtain⟨x0,x1,x2⟩:=X;dsimp only at hz2;have HR:Hid (∀ y,Below w.heap.size w y→y.rangeAt g (m*5) [.int .i64 whn,.int .i64 rst,.int .i64 rln,.int .i64 rcl,.slice D acts.len rk]):=Hh fun y hb j v hv=>(World.cell?_of_block (a:=⟨g,m*5+j,none⟩) (hb.block g hg)).trans (hR j v hv)
     have HZ:=Hh hz2;generalize acts.len=rn at *;clear hxs hp hc hR hk1 hz2 hz hyl hrow hnn hwz hdz hfa hru;have lk:(m:Int)<(n:Int):=by omega
     go_upto_region 5 with(first
 |((with_reducible refine at_ld 15 ?_);refine Yb 66 _ g (m*5) [.int .i64 whn,.int .i64 rst,.int .i64 rln,.int .i64 rcl,.slice D rn rk] (HR.out _ T.out.below) lrow_ru lsize_ru rfl rfl rfl ?_)
 |((with_reducible refine at_ld 6 ?_);refine wpList_allocE T.out 66 _ rfl rfl lz_ru ?_;intro wc g2 tn;have T:=Hh tn;clear tn)
 |((with_reducible refine at_st 6 15 ?_);refine wpList_storeW 66 _ _ 66 g2 _ ([.int .i64 whn,.int .i64 rst,.int .i64 rln,.int .i64 rcl,.slice D rn rk]) (T.out.get 1 rfl) rfl lsize_ru (by simp[Value.oneCell']) rfl rfl rfl rfl rfl ?_;intro wd p;have T:=Hh (T.out.put 1 rfl p);clear p)
 |((with_reducible refine at_ld 16 ?_);refine wpList_loadW 66 _ 66 g2 ([.int .i64 whn,.int .i64 rst,.int .i64 rln,.int .i64 rcl,.slice D rn rk]) (T.out.get 1 rfl) lrow_ru lsize_ru rfl rfl rfl ?_)
 |((with_reducible refine at_ld 7 ?_);refine wpList_allocE T.out 194 _ rfl rfl lz_sc ?_;intro wf g3 tn;have T:=Hh tn;clear tn)
 | ((with_reducible refine at_st 7 18 ?_);refine wpList_storeW 194 _ _ 194 g3 _ ([.int .i64 whn,.int .i64 rst,.int .i64 rln,.int .i64 rcl,.slice D rn rk,.bool place,.bool false]) (T.out.get 2 rfl) rfl Jf (by simp[Value.oneCell']) rfl rfl rfl rfl rfl ?_;intro wd p;have T:=Hh (T.out.put 2 rfl p);clear p))
     refine wp_region_held_drew (S:=fun x=>Env w [(g1,29,[.int .i64 0,.int .i64 0,.int .i64 0]),(g2,66,[.int .i64 whn,.int .i64 rst,.int .i64 rln,.int .i64 rcl,.slice D rn rk]),(g3,194,[.int .i64 whn,.int .i64 rst,.int .i64 rln,.int .i64 rcl,.slice D rn rk,.bool place,.bool false])] [] [] x) (by kernel_rfl) T.out.drew (fun hS=>?_);generalize wd.drew=wf at *;refine Yi (i:=0) (v:=.agg ([.int .i64 whn,.int .i64 rst,.int .i64 rln,.int .i64 rcl,.slice D rn rk,.bool place,.bool false]:List Value).toArray) rfl rfl (by kernel_rfl) (by kernel_rfl) (by kernel_rfl) (fun _ _ _ h=>h) (Vh rfl rfl rfl (fun y hy=>(Env.get hy 2 rfl).range0) Zbi Jf) hS ?_;try simp only[Qy,Qx]
     refine Yi (i:=1) (v:=.agg ([.int .i64 whn,.int .i64 rst,.int .i64 rln,.int .i64 rcl,.slice D rn rk,.bool place,.bool false]:List Value).toArray) rfl rfl (by kernel_rfl) (by kernel_rfl) (by kernel_rfl) (fun _ _ _ h=>h) (Vh rfl rfl rfl (fun y hy=>(Env.get hy 2 rfl).range0) Zbi Jf) hS ?_;try simp only[Qy,Qx]
     refine Yi (i:=2) (v:=.int .i64 (m:Int)) rfl rfl (by kernel_rfl) (by kernel_rfl) (by kernel_rfl) (fun _ _ _ h=>h) (Zbq rfl rfl rfl) hS ?_;try simp only[Qy,Qx]
     refine Yi (i:=5) (v:=.agg ([.int .i64 whn,.int .i64 rst,.int .i64 rln,.int .i64 rcl,.slice D rn rk,.bool place,.bool false]:List Value).toArray) rfl rfl (by kernel_rfl) (by kernel_rfl) (by kernel_rfl) (fun _ _ _ h=>h) (Vh rfl rfl rfl (fun y hy=>(Env.get hy 2 rfl).range0) Zbi Jf) hS ?_;try simp only[Qy,Qx]
     refine Yi (i:=6) (v:=.pointer (some ⟨g2,4,none⟩)) rfl rfl (by kernel_rfl) (by kernel_rfl) (by kernel_rfl) (fun _ _ _ h=>h) (Or.inl ⟨by rfl,fun y hy=>by go_simp⟩) hS ?_;try simp only[Qy,Qx]
     refine Yi (i:=7) (v:=.slice D rn rk) rfl rfl (by kernel_rfl) (by kernel_rfl) (by kernel_rfl) (fun _ _ _ h=>h) (Or.inl ⟨by rfl,fun y hy=>by have c0:=(Env.get hy 1 rfl).read 4;go_simp⟩) hS ?_;try simp only[Qy,Qx]
     refine Yi (i:=9) (v:=.agg ([.int .i64 whn,.int .i64 rst,.int .i64 rln,.int .i64 rcl,.slice D rn rk,.bool place,.bool false]:List Value).toArray) rfl rfl (by kernel_rfl) (by kernel_rfl) (by kernel_rfl) (fun _ _ _ h=>h) (Vh rfl rfl rfl (fun y hy=>(Env.get hy 2 rfl).range0) Zbi Jf) hS ?_;try simp only[Qy,Qx]
     refine Yi (i:=10) (v:=.agg ([.int .i64 whn,.int .i64 rst,.int .i64 rln,.int .i64 rcl,.slice D rn rk,.bool place,.bool false]:List Value).toArray) rfl rfl (by kernel_rfl) (by kernel_rfl) (by kernel_rfl) (fun _ _ _ h=>h) (Vh rfl rfl rfl (fun y hy=>(Env.get hy 2 rfl).range0) Zbi Jf) hS ?_;try simp only[Qy,Qx]
     refine wpAnyH_ready (rs:=[3,15]) (by kernel_rfl) (by simp) (AllReadyH.cons rfl (fun K hK=>?_) (AllReadyH.cons rfl (fun K hK=>?_) AllReadyH.nil))
     · go_simp
       go_at_call 141
       refine(hbe _).mono ?_;rintro e wf ⟨rfl,bn⟩;try simp only[faV]
       try go_wp2
       skip
       have hS:=hS.call bn;refine hK.out _ _ hS (fun _=>?_);clear hK K bn;try simp only[Act.put,Qz,Qy,Qx]
       refine wpAnyH_ready (rs:=[4,15]) (by kernel_rfl) (by simp) (AllReadyH.cons rfl (fun K hK=>?_) (AllReadyH.cons rfl (fun K hK=>?_) AllReadyH.nil))
       · go_simp
         go_at_call 140
         refine(hf1 _).mono ?_;rintro e wf ⟨rfl,bn⟩;try simp only[faV]
         try go_wp2
         skip
         have hS:=hS.call bn;refine hK.out _ _ hS (fun _=>?_);clear hK K bn;try simp only[Act.put,Qz,Qy,Qx]
         refine wpAnyH_ready (rs:=[8,15]) (by kernel_rfl) (by simp) (AllReadyH.cons rfl (fun K hK=>?_) (AllReadyH.cons rfl (fun K hK=>?_) AllReadyH.nil))
         · go_simp
           go_at_call 142
           refine(hac _ hS.below).mono ?_;rintro e wf ⟨rfl,bn⟩;try simp only[faV]
           try go_wp2
           skip
           have hS:=hS.call bn;refine hK.out _ _ hS (fun _=>?_);clear hK K bn;try simp only[Act.put,Qz,Qy,Qx]
           refine wpAnyH_ready (rs:=[11,15]) (by kernel_rfl) (by simp) (AllReadyH.cons rfl (fun K hK=>?_) (AllReadyH.cons rfl (fun K hK=>?_) AllReadyH.nil))
           · go_simp
             go_at_call 143
             refine(hbh _ hS.below).mono ?_;rintro e wf ⟨rfl,bn⟩;try simp only[faV]
             try go_wp2
             skip
             have hS:=hS.call bn;refine hK.out _ _ hS (fun _=>?_);clear hK K bn;try simp only[Act.put,Qz,Qy,Qx]
             refine wpAnyH_ready (rs:=[12,15]) (by kernel_rfl) (by simp) (AllReadyH.cons rfl (fun K hK=>?_) (AllReadyH.cons rfl (fun K hK=>?_) AllReadyH.nil))
             · go_simp
               go_at_call 140
               refine(hf3 _).mono ?_;rintro e wf ⟨rfl,bn⟩;try simp only[faV]
               try go_wp2
               skip
               have hS:=hS.call bn;refine hK.out _ _ hS (fun _=>?_);clear hK K bn;try simp only[Act.put,Qz,Qy,Qx]
               refine wpAnyH_ready (rs:=[13,15]) (by kernel_rfl) (by simp) (AllReadyH.cons rfl (fun K hK=>?_) (AllReadyH.cons rfl (fun K hK=>?_) AllReadyH.nil))
               · go_simp
                 have hWb:Zb (World.alloc wf (.cells #[.int .i64 F1.1,.int .i64 F1.2.1,.int .i64 F1.2.2,.int .i64 F2.1,.int .i64 F2.2.1,.int .i64 F2.2.2,.int .i64 F3.1,.int .i64 F3.2.1,.int .i64 F3.2.2] 29)) wf.heap.size 29 ([F1,F2,F3].flatMap faL).toArray:=Zb.made _ _ _;have hnb:=Za wf (.cells #[.int .i64 F1.1,.int .i64 F1.2.1,.int .i64 F1.2.2,.int .i64 F2.1,.int .i64 F2.2.1,.int .i64 F2.2.2,.int .i64 F3.1,.int .i64 F3.2.1,.int .i64 F3.2.2] 29);have hS:=hS.call hnb;skip
                 generalize World.alloc wf (.cells #[.int .i64 F1.1,.int .i64 F1.2.1,.int .i64 F1.2.2,.int .i64 F2.1,.int .i64 F2.2.1,.int .i64 F2.2.2,.int .i64 F3.1,.int .i64 F3.2.1,.int .i64 F3.2.2] 29)=wf at *;refine hK.out _ _ hS (fun _=>?_);clear hK K hnb;try simp only[Act.put,Qz,Qy,Qx]
                 refine wpAnyH_ready (rs:=[14,15]) (by kernel_rfl) (by simp) (AllReadyH.cons rfl (fun K hK=>?_) (AllReadyH.cons rfl (fun K hK=>?_) AllReadyH.nil))
                 · go_simp
                   go_at_call 88
                   refine(hof _ _ hWb).mono ?_;rintro e wf ⟨rfl,bn⟩;try simp only[faV]
                   try go_wp2
                   skip
                   have hS:=hS.call bn;refine hK.out _ _ hS (fun _=>?_);clear hK K bn;try simp only[Act.put,Qz,Qy,Qx]
                   refine wpAnyH_ready (rs:=[15]) (by kernel_rfl) (by simp) (AllReadyH.cons rfl (fun K hK=>?_) AllReadyH.nil);go_simp;obtain⟨g4,hg4⟩:∃ g,g=wf.heap.size:=⟨_,rfl⟩
                   have hbx:=hS.box 29 [.int .i64 0,.int .i64 0,.int .i64 0];have hnb:=Za wf (.cells ([.int .i64 0,.int .i64 0,.int .i64 0]:List Value).toArray 29);rw[←hg4]at hbx ⊢;have hS:=hS.call hnb;skip
                   generalize World.alloc wf (.cells ([.int .i64 0,.int .i64 0,.int .i64 0]:List Value).toArray 29)=wf at *;have h4:=(show Env w [_,_,_,(g4,29,[.int .i64 0,.int .i64 0,.int .i64 0])] [] [] wf from hbx)
                   clear hbx hnb hg4;refine hK.out _ _ hS (fun _=>?_);clear hK K;try simp only[Act.put,Qz,Qy,Qx]
                   refine wpAnyH_ready (rs:=[16]) (by kernel_rfl) (by simp) (AllReadyH.cons rfl (fun K hK=>?_) AllReadyH.nil);obtain⟨e0,e1,e2,z0,z1,z2⟩:=Zl (h4.get 3 rfl);go_simp;have h5:=(show Env w [_,_,_,_] [] [] _ from h4.put 3 rfl (Zew (h4.get 3 rfl) (.int .i64 x0) (.int .i64 x1) (.int .i64 x2)))
                   refine hK.out _ _ (h5.less (bs:=[_,_,_]) (cs:=[_]) (ts:=[]) (us:=[])) (fun hS=>?_);clear hK K e0 e1 e2 z0 z1 z2 h4;try simp only[Act.put,Qz,Qy,Qx]
                   refine wpAnyH_done (by kernel_rfl) ?_ _;have T:=Hh h5;clear h5;obtain⟨y0,y1,y2,_,_,_⟩:=Zl (T.out.get 3 rfl);have hz2:=HZ.out;by_cases h0:x0=0
                   · rw[if_pos h0]at hz2
                     have HZ2:=Hh hz2;clear hz2;subst h0;go_wp2
                     go_roundw
                     case rel=>exact⟨m+1,by go_num,by omega,T.out.less (bs:=[_]) (cs:=[_,_,_]) (ts:=[]) (us:=[]),HZ2⟩
                     case measure=>simp[intOf];omega
                   · rw[if_neg h0]at hz2
                     subst hz2;have hb0:(x0 == 0)=false:=by simpa using h0
                     clear h0;go_wp2_with(first
 |((with_reducible refine at_ld 37 ?_);refine wpList_loadW 29 _ 29 _ [.int .i64 x0,.int .i64 x1,.int .i64 x2] (T.out.get 3 rfl) Zw Zf rfl rfl rfl ?_)
 |((with_reducible refine at_st 4 37 ?_);refine wpList_storeW 29 _ _ 29 g1 _ ([.int .i64 x0,.int .i64 x1,.int .i64 x2]) (T.out.get 0 rfl) rfl Zf (by simp[Value.oneCell']) rfl rfl rfl rfl rfl ?_;intro wd p;have T:=Hh (T.out.put 0 rfl p);clear p))
                     exact Zj 4 29 29 g1 ([.int .i64 x0,.int .i64 x1,.int .i64 x2]) rfl (T.out.get 0 rfl) Zw Zf rfl rfl ⟨rfl,T.out.below⟩
                 · go_simp
                   obtain⟨g4,hg4⟩:∃ g,g=wf.heap.size:=⟨_,rfl⟩
                   have hbx:=hS.box 29 [.int .i64 0,.int .i64 0,.int .i64 0];have hnb:=Za wf (.cells ([.int .i64 0,.int .i64 0,.int .i64 0]:List Value).toArray 29);rw[←hg4]at hbx ⊢;have hS:=hS.call hnb;have hWb:=hWb.below hnb hWb.inside;generalize World.alloc wf (.cells ([.int .i64 0,.int .i64 0,.int .i64 0]:List Value).toArray 29)=wf at *;have h4:=(show Env w [_,_,_,(g4,29,[.int .i64 0,.int .i64 0,.int .i64 0])] [] [] wf from hbx)
                   clear hbx hnb hg4;refine hK.out _ _ hS (fun _=>?_);clear hK K;try simp only[Act.put,Qz,Qy,Qx]
                   refine wpAnyH_ready (rs:=[14]) (by kernel_rfl) (by simp) (AllReadyH.cons rfl (fun K hK=>?_) AllReadyH.nil);go_simp;go_at_call 88
                   refine(hof _ _ hWb).mono ?_;rintro e wf ⟨rfl,bn⟩;try simp only[faV]
                   try go_wp2
                   have h4:=h4.call bn;have hS:=hS.call bn;refine hK.out _ _ hS (fun _=>?_);clear hK K bn;try simp only[Act.put,Qz,Qy,Qx]
                   refine wpAnyH_ready (rs:=[16]) (by kernel_rfl) (by simp) (AllReadyH.cons rfl (fun K hK=>?_) AllReadyH.nil);obtain⟨e0,e1,e2,z0,z1,z2⟩:=Zl (h4.get 3 rfl);go_simp;have h5:=(show Env w [_,_,_,_] [] [] _ from h4.put 3 rfl (Zew (h4.get 3 rfl) (.int .i64 x0) (.int .i64 x1) (.int .i64 x2)))
                   refine hK.out _ _ (h5.less (bs:=[_,_,_]) (cs:=[_]) (ts:=[]) (us:=[])) (fun hS=>?_);clear hK K e0 e1 e2 z0 z1 z2 h4;try simp only[Act.put,Qz,Qy,Qx]
                   refine wpAnyH_done (by kernel_rfl) ?_ _;have T:=Hh h5;clear h5;obtain⟨y0,y1,y2,_,_,_⟩:=Zl (T.out.get 3 rfl);have hz2:=HZ.out;by_cases h0:x0=0
                   · rw[if_pos h0]at hz2
                     have HZ2:=Hh hz2;clear hz2;subst h0;go_wp2
                     go_roundw
                     case rel=>exact⟨m+1,by go_num,by omega,T.out.less (bs:=[_]) (cs:=[_,_,_]) (ts:=[]) (us:=[]),HZ2⟩
                     case measure=>simp[intOf];omega
                   · rw[if_neg h0]at hz2
                     subst hz2;have hb0:(x0 == 0)=false:=by simpa using h0
                     clear h0;go_wp2_with(first
 |((with_reducible refine at_ld 37 ?_);refine wpList_loadW 29 _ 29 _ [.int .i64 x0,.int .i64 x1,.int .i64 x2] (T.out.get 3 rfl) Zw Zf rfl rfl rfl ?_)
 |((with_reducible refine at_st 4 37 ?_);refine wpList_storeW 29 _ _ 29 g1 _ ([.int .i64 x0,.int .i64 x1,.int .i64 x2]) (T.out.get 0 rfl) rfl Zf (by simp[Value.oneCell']) rfl rfl rfl rfl rfl ?_;intro wd p;have T:=Hh (T.out.put 0 rfl p);clear p))
                     exact Zj 4 29 29 g1 ([.int .i64 x0,.int .i64 x1,.int .i64 x2]) rfl (T.out.get 0 rfl) Zw Zf rfl rfl ⟨rfl,T.out.below⟩
               · go_simp
                 obtain⟨g4,hg4⟩:∃ g,g=wf.heap.size:=⟨_,rfl⟩
                 have hbx:=hS.box 29 [.int .i64 0,.int .i64 0,.int .i64 0];have hnb:=Za wf (.cells ([.int .i64 0,.int .i64 0,.int .i64 0]:List Value).toArray 29);rw[←hg4]at hbx ⊢;have hS:=hS.call hnb;skip
                 generalize World.alloc wf (.cells ([.int .i64 0,.int .i64 0,.int .i64 0]:List Value).toArray 29)=wf at *;have h4:=(show Env w [_,_,_,(g4,29,[.int .i64 0,.int .i64 0,.int .i64 0])] [] [] wf from hbx)
                 clear hbx hnb hg4;refine hK.out _ _ hS (fun _=>?_);clear hK K;try simp only[Act.put,Qz,Qy,Qx]
                 refine wpAnyH_ready (rs:=[13]) (by kernel_rfl) (by simp) (AllReadyH.cons rfl (fun K hK=>?_) AllReadyH.nil);go_simp;have hWb:Zb (World.alloc wf (.cells #[.int .i64 F1.1,.int .i64 F1.2.1,.int .i64 F1.2.2,.int .i64 F2.1,.int .i64 F2.2.1,.int .i64 F2.2.2,.int .i64 F3.1,.int .i64 F3.2.1,.int .i64 F3.2.2] 29)) wf.heap.size 29 ([F1,F2,F3].flatMap faL).toArray:=Zb.made _ _ _;have hnb:=Za wf (.cells #[.int .i64 F1.1,.int .i64 F1.2.1,.int .i64 F1.2.2,.int .i64 F2.1,.int .i64 F2.2.1,.int .i64 F2.2.2,.int .i64 F3.1,.int .i64 F3.2.1,.int .i64 F3.2.2] 29);have hS:=hS.call hnb;have h4:=h4.call hnb;generalize World.alloc wf (.cells #[.int .i64 F1.1,.int .i64 F1.2.1,.int .i64 F1.2.2,.int .i64 F2.1,.int .i64 F2.2.1,.int .i64 F2.2.2,.int .i64 F3.1,.int .i64 F3.2.1,.int .i64 F3.2.2] 29)=wf at *;refine hK.out _ _ hS (fun _=>?_);clear hK K hnb;try simp only[Act.put,Qz,Qy,Qx]
                 refine wpAnyH_ready (rs:=[14]) (by kernel_rfl) (by simp) (AllReadyH.cons rfl (fun K hK=>?_) AllReadyH.nil);go_simp;go_at_call 88
                 refine(hof _ _ hWb).mono ?_;rintro e wf ⟨rfl,bn⟩;try simp only[faV]
                 try go_wp2
                 have h4:=h4.call bn;have hS:=hS.call bn;refine hK.out _ _ hS (fun _=>?_);clear hK K bn;try simp only[Act.put,Qz,Qy,Qx]
                 refine wpAnyH_ready (rs:=[16]) (by kernel_rfl) (by simp) (AllReadyH.cons rfl (fun K hK=>?_) AllReadyH.nil);obtain⟨e0,e1,e2,z0,z1,z2⟩:=Zl (h4.get 3 rfl);go_simp;have h5:=(show Env w [_,_,_,_] [] [] _ from h4.put 3 rfl (Zew (h4.get 3 rfl) (.int .i64 x0) (.int .i64 x1) (.int .i64 x2)))
                 refine hK.out _ _ (h5.less (bs:=[_,_,_]) (cs:=[_]) (ts:=[]) (us:=[])) (fun hS=>?_);clear hK K e0 e1 e2 z0 z1 z2 h4;try simp only[Act.put,Qz,Qy,Qx]
                 refine wpAnyH_done (by kernel_rfl) ?_ _;have T:=Hh h5;clear h5;obtain⟨y0,y1,y2,_,_,_⟩:=Zl (T.out.get 3 rfl);have hz2:=HZ.out;by_cases h0:x0=0
                 · rw[if_pos h0]at hz2
                   have HZ2:=Hh hz2;clear hz2;subst h0;go_wp2
                   go_roundw
                   case rel=>exact⟨m+1,by go_num,by omega,T.out.less (bs:=[_]) (cs:=[_,_,_]) (ts:=[]) (us:=[]),HZ2⟩
                   case measure=>simp[intOf];omega
                 · rw[if_neg h0]at hz2
                   subst hz2;have hb0:(x0 == 0)=false:=by simpa using h0
                   clear h0;go_wp2_with(first
 |((with_reducible refine at_ld 37 ?_);refine wpList_loadW 29 _ 29 _ [.int .i64 x0,.int .i64 x1,.int .i64 x2] (T.out.get 3 rfl) Zw Zf rfl rfl rfl ?_)
 |((with_reducible refine at_st 4 37 ?_);refine wpList_storeW 29 _ _ 29 g1 _ ([.int .i64 x0,.int .i64 x1,.int .i64 x2]) (T.out.get 0 rfl) rfl Zf (by simp[Value.oneCell']) rfl rfl rfl rfl rfl ?_;intro wd p;have T:=Hh (T.out.put 0 rfl p);clear p))
                   exact Zj 4 29 29 g1 ([.int .i64 x0,.int .i64 x1,.int .i64 x2]) rfl (T.out.get 0 rfl) Zw Zf rfl rfl ⟨rfl,T.out.below⟩
             · go_simp
               obtain⟨g4,hg4⟩:∃ g,g=wf.heap.size:=⟨_,rfl⟩
               have hbx:=hS.box 29 [.int .i64 0,.int .i64 0,.int .i64 0];have hnb:=Za wf (.cells ([.int .i64 0,.int .i64 0,.int .i64 0]:List Value).toArray 29);rw[←hg4]at hbx ⊢;have hS:=hS.call hnb;skip
               generalize World.alloc wf (.cells ([.int .i64 0,.int .i64 0,.int .i64 0]:List Value).toArray 29)=wf at *;have h4:=(show Env w [_,_,_,(g4,29,[.int .i64 0,.int .i64 0,.int .i64 0])] [] [] wf from hbx)
               clear hbx hnb hg4;refine hK.out _ _ hS (fun _=>?_);clear hK K;try simp only[Act.put,Qz,Qy,Qx]
               refine wpAnyH_ready (rs:=[12]) (by kernel_rfl) (by simp) (AllReadyH.cons rfl (fun K hK=>?_) AllReadyH.nil);go_simp;go_at_call 140
               refine(hf3 _).mono ?_;rintro e wf ⟨rfl,bn⟩;try simp only[faV]
               try go_wp2
               have h4:=h4.call bn;have hS:=hS.call bn;refine hK.out _ _ hS (fun _=>?_);clear hK K bn;try simp only[Act.put,Qz,Qy,Qx]
               refine wpAnyH_ready (rs:=[13]) (by kernel_rfl) (by simp) (AllReadyH.cons rfl (fun K hK=>?_) AllReadyH.nil);go_simp;have hWb:Zb (World.alloc wf (.cells #[.int .i64 F1.1,.int .i64 F1.2.1,.int .i64 F1.2.2,.int .i64 F2.1,.int .i64 F2.2.1,.int .i64 F2.2.2,.int .i64 F3.1,.int .i64 F3.2.1,.int .i64 F3.2.2] 29)) wf.heap.size 29 ([F1,F2,F3].flatMap faL).toArray:=Zb.made _ _ _;have hnb:=Za wf (.cells #[.int .i64 F1.1,.int .i64 F1.2.1,.int .i64 F1.2.2,.int .i64 F2.1,.int .i64 F2.2.1,.int .i64 F2.2.2,.int .i64 F3.1,.int .i64 F3.2.1,.int .i64 F3.2.2] 29);have hS:=hS.call hnb;have h4:=h4.call hnb;generalize World.alloc wf (.cells #[.int .i64 F1.1,.int .i64 F1.2.1,.int .i64 F1.2.2,.int .i64 F2.1,.int .i64 F2.2.1,.int .i64 F2.2.2,.int .i64 F3.1,.int .i64 F3.2.1,.int .i64 F3.2.2] 29)=wf at *;refine hK.out _ _ hS (fun _=>?_);clear hK K hnb;try simp only[Act.put,Qz,Qy,Qx]
               refine wpAnyH_ready (rs:=[14]) (by kernel_rfl) (by simp) (AllReadyH.cons rfl (fun K hK=>?_) AllReadyH.nil);go_simp;go_at_call 88
               refine(hof _ _ hWb).mono ?_;rintro e wf ⟨rfl,bn⟩;try simp only[faV]
               try go_wp2
               have h4:=h4.call bn;have hS:=hS.call bn;refine hK.out _ _ hS (fun _=>?_);clear hK K bn;try simp only[Act.put,Qz,Qy,Qx]
               refine wpAnyH_ready (rs:=[16]) (by kernel_rfl) (by simp) (AllReadyH.cons rfl (fun K hK=>?_) AllReadyH.nil);obtain⟨e0,e1,e2,z0,z1,z2⟩:=Zl (h4.get 3 rfl);go_simp;have h5:=(show Env w [_,_,_,_] [] [] _ from h4.put 3 rfl (Zew (h4.get 3 rfl) (.int .i64 x0) (.int .i64 x1) (.int .i64 x2)))
               refine hK.out _ _ (h5.less (bs:=[_,_,_]) (cs:=[_]) (ts:=[]) (us:=[])) (fun hS=>?_);clear hK K e0 e1 e2 z0 z1 z2 h4;try simp only[Act.put,Qz,Qy,Qx]
               refine wpAnyH_done (by kernel_rfl) ?_ _;have T:=Hh h5;clear h5;obtain⟨y0,y1,y2,_,_,_⟩:=Zl (T.out.get 3 rfl);have hz2:=HZ.out;by_cases h0:x0=0
               · rw[if_pos h0]at hz2
                 have HZ2:=Hh hz2;clear hz2;subst h0;go_wp2
                 go_roundw
                 case rel=>exact⟨m+1,by go_num,by omega,T.out.less (bs:=[_]) (cs:=[_,_,_]) (ts:=[]) (us:=[]),HZ2⟩
                 case measure=>simp[intOf];omega
               · rw[if_neg h0]at hz2
                 subst hz2;have hb0:(x0 == 0)=false:=by simpa using h0
                 clear h0;go_wp2_with(first
 |((with_reducible refine at_ld 37 ?_);refine wpList_loadW 29 _ 29 _ [.int .i64 x0,.int .i64 x1,.int .i64 x2] (T.out.get 3 rfl) Zw Zf rfl rfl rfl ?_)
 |((with_reducible refine at_st 4 37 ?_);refine wpList_storeW 29 _ _ 29 g1 _ ([.int .i64 x0,.int .i64 x1,.int .i64 x2]) (T.out.get 0 rfl) rfl Zf (by simp[Value.oneCell']) rfl rfl rfl rfl rfl ?_;intro wd p;have T:=Hh (T.out.put 0 rfl p);clear p))
                 exact Zj 4 29 29 g1 ([.int .i64 x0,.int .i64 x1,.int .i64 x2]) rfl (T.out.get 0 rfl) Zw Zf rfl rfl ⟨rfl,T.out.below⟩
           · go_simp
             obtain⟨g4,hg4⟩:∃ g,g=wf.heap.size:=⟨_,rfl⟩
             have hbx:=hS.box 29 [.int .i64 0,.int .i64 0,.int .i64 0];have hnb:=Za wf (.cells ([.int .i64 0,.int .i64 0,.int .i64 0]:List Value).toArray 29);rw[←hg4]at hbx ⊢;have hS:=hS.call hnb;skip
             generalize World.alloc wf (.cells ([.int .i64 0,.int .i64 0,.int .i64 0]:List Value).toArray 29)=wf at *;have h4:=(show Env w [_,_,_,(g4,29,[.int .i64 0,.int .i64 0,.int .i64 0])] [] [] wf from hbx)
             clear hbx hnb hg4;refine hK.out _ _ hS (fun _=>?_);clear hK K;try simp only[Act.put,Qz,Qy,Qx]
             refine wpAnyH_ready (rs:=[11]) (by kernel_rfl) (by simp) (AllReadyH.cons rfl (fun K hK=>?_) AllReadyH.nil);go_simp;go_at_call 143
             refine(hbh _ hS.below).mono ?_;rintro e wf ⟨rfl,bn⟩;try simp only[faV]
             try go_wp2
             have h4:=h4.call bn;have hS:=hS.call bn;refine hK.out _ _ hS (fun _=>?_);clear hK K bn;try simp only[Act.put,Qz,Qy,Qx]
             refine wpAnyH_ready (rs:=[12]) (by kernel_rfl) (by simp) (AllReadyH.cons rfl (fun K hK=>?_) AllReadyH.nil);go_simp;go_at_call 140
             refine(hf3 _).mono ?_;rintro e wf ⟨rfl,bn⟩;try simp only[faV]
             try go_wp2
             have h4:=h4.call bn;have hS:=hS.call bn;refine hK.out _ _ hS (fun _=>?_);clear hK K bn;try simp only[Act.put,Qz,Qy,Qx]
             refine wpAnyH_ready (rs:=[13]) (by kernel_rfl) (by simp) (AllReadyH.cons rfl (fun K hK=>?_) AllReadyH.nil);go_simp;have hWb:Zb (World.alloc wf (.cells #[.int .i64 F1.1,.int .i64 F1.2.1,.int .i64 F1.2.2,.int .i64 F2.1,.int .i64 F2.2.1,.int .i64 F2.2.2,.int .i64 F3.1,.int .i64 F3.2.1,.int .i64 F3.2.2] 29)) wf.heap.size 29 ([F1,F2,F3].flatMap faL).toArray:=Zb.made _ _ _;have hnb:=Za wf (.cells #[.int .i64 F1.1,.int .i64 F1.2.1,.int .i64 F1.2.2,.int .i64 F2.1,.int .i64 F2.2.1,.int .i64 F2.2.2,.int .i64 F3.1,.int .i64 F3.2.1,.int .i64 F3.2.2] 29);have hS:=hS.call hnb;have h4:=h4.call hnb;generalize World.alloc wf (.cells #[.int .i64 F1.1,.int .i64 F1.2.1,.int .i64 F1.2.2,.int .i64 F2.1,.int .i64 F2.2.1,.int .i64 F2.2.2,.int .i64 F3.1,.int .i64 F3.2.1,.int .i64 F3.2.2] 29)=wf at *;refine hK.out _ _ hS (fun _=>?_);clear hK K hnb;try simp only[Act.put,Qz,Qy,Qx]
             refine wpAnyH_ready (rs:=[14]) (by kernel_rfl) (by simp) (AllReadyH.cons rfl (fun K hK=>?_) AllReadyH.nil);go_simp;go_at_call 88
             refine(hof _ _ hWb).mono ?_;rintro e wf ⟨rfl,bn⟩;try simp only[faV]
             try go_wp2
             have h4:=h4.call bn;have hS:=hS.call bn;refine hK.out _ _ hS (fun _=>?_);clear hK K bn;try simp only[Act.put,Qz,Qy,Qx]
             refine wpAnyH_ready (rs:=[16]) (by kernel_rfl) (by simp) (AllReadyH.cons rfl (fun K hK=>?_) AllReadyH.nil);obtain⟨e0,e1,e2,z0,z1,z2⟩:=Zl (h4.get 3 rfl);go_simp;have h5:=(show Env w [_,_,_,_] [] [] _ from h4.put 3 rfl (Zew (h4.get 3 rfl) (.int .i64 x0) (.int .i64 x1) (.int .i64 x2)))
             refine hK.out _ _ (h5.less (bs:=[_,_,_]) (cs:=[_]) (ts:=[]) (us:=[])) (fun hS=>?_);clear hK K e0 e1 e2 z0 z1 z2 h4;try simp only[Act.put,Qz,Qy,Qx]
             refine wpAnyH_done (by kernel_rfl) ?_ _;have T:=Hh h5;clear h5;obtain⟨y0,y1,y2,_,_,_⟩:=Zl (T.out.get 3 rfl);have hz2:=HZ.out;by_cases h0:x0=0
             · rw[if_pos h0]at hz2
               have HZ2:=Hh hz2;clear hz2;subst h0;go_wp2
               go_roundw
               case rel=>exact⟨m+1,by go_num,by omega,T.out.less (bs:=[_]) (cs:=[_,_,_]) (ts:=[]) (us:=[]),HZ2⟩
               case measure=>simp[intOf];omega
             · rw[if_neg h0]at hz2
               subst hz2;have hb0:(x0 == 0)=false:=by simpa using h0
               clear h0;go_wp2_with(first
 |((with_reducible refine at_ld 37 ?_);refine wpList_loadW 29 _ 29 _ [.int .i64 x0,.int .i64 x1,.int .i64 x2] (T.out.get 3 rfl) Zw Zf rfl rfl rfl ?_)
 |((with_reducible refine at_st 4 37 ?_);refine wpList_storeW 29 _ _ 29 g1 _ ([.int .i64 x0,.int .i64 x1,.int .i64 x2]) (T.out.get 0 rfl) rfl Zf (by simp[Value.oneCell']) rfl rfl rfl rfl rfl ?_;intro wd p;have T:=Hh (T.out.put 0 rfl p);clear p))
               exact Zj 4 29 29 g1 ([.int .i64 x0,.int .i64 x1,.int .i64 x2]) rfl (T.out.get 0 rfl) Zw Zf rfl rfl ⟨rfl,T.out.below⟩
         · go_simp
           obtain⟨g4,hg4⟩:∃ g,g=wf.heap.size:=⟨_,rfl⟩
           have hbx:=hS.box 29 [.int .i64 0,.int .i64 0,.int .i64 0];have hnb:=Za wf (.cells ([.int .i64 0,.int .i64 0,.int .i64 0]:List Value).toArray 29);rw[←hg4]at hbx ⊢;have hS:=hS.call hnb;skip
           generalize World.alloc wf (.cells ([.int .i64 0,.int .i64 0,.int .i64 0]:List Value).toArray 29)=wf at *;have h4:=(show Env w [_,_,_,(g4,29,[.int .i64 0,.int .i64 0,.int .i64 0])] [] [] wf from hbx)
           clear hbx hnb hg4;refine hK.out _ _ hS (fun _=>?_);clear hK K;try simp only[Act.put,Qz,Qy,Qx]
           refine wpAnyH_ready (rs:=[8]) (by kernel_rfl) (by simp) (AllReadyH.cons rfl (fun K hK=>?_) AllReadyH.nil);go_simp;go_at_call 142
           refine(hac _ hS.below).mono ?_;rintro e wf ⟨rfl,bn⟩;try simp only[faV]
           try go_wp2
           have h4:=h4.call bn;have hS:=hS.call bn;refine hK.out _ _ hS (fun _=>?_);clear hK K bn;try simp only[Act.put,Qz,Qy,Qx]
           refine wpAnyH_ready (rs:=[11]) (by kernel_rfl) (by simp) (AllReadyH.cons rfl (fun K hK=>?_) AllReadyH.nil);go_simp;go_at_call 143
           refine(hbh _ hS.below).mono ?_;rintro e wf ⟨rfl,bn⟩;try simp only[faV]
           try go_wp2
           have h4:=h4.call bn;have hS:=hS.call bn;refine hK.out _ _ hS (fun _=>?_);clear hK K bn;try simp only[Act.put,Qz,Qy,Qx]
           refine wpAnyH_ready (rs:=[12]) (by kernel_rfl) (by simp) (AllReadyH.cons rfl (fun K hK=>?_) AllReadyH.nil);go_simp;go_at_call 140
           refine(hf3 _).mono ?_;rintro e wf ⟨rfl,bn⟩;try simp only[faV]
           try go_wp2
           have h4:=h4.call bn;have hS:=hS.call bn;refine hK.out _ _ hS (fun _=>?_);clear hK K bn;try simp only[Act.put,Qz,Qy,Qx]
           refine wpAnyH_ready (rs:=[13]) (by kernel_rfl) (by simp) (AllReadyH.cons rfl (fun K hK=>?_) AllReadyH.nil);go_simp;have hWb:Zb (World.alloc wf (.cells #[.int .i64 F1.1,.int .i64 F1.2.1,.int .i64 F1.2.2,.int .i64 F2.1,.int .i64 F2.2.1,.int .i64 F2.2.2,.int .i64 F3.1,.int .i64 F3.2.1,.int .i64 F3.2.2] 29)) wf.heap.size 29 ([F1,F2,F3].flatMap faL).toArray:=Zb.made _ _ _;have hnb:=Za wf (.cells #[.int .i64 F1.1,.int .i64 F1.2.1,.int .i64 F1.2.2,.int .i64 F2.1,.int .i64 F2.2.1,.int .i64 F2.2.2,.int .i64 F3.1,.int .i64 F3.2.1,.int .i64 F3.2.2] 29);have hS:=hS.call hnb;have h4:=h4.call hnb;generalize World.alloc wf (.cells #[.int .i64 F1.1,.int .i64 F1.2.1,.int .i64 F1.2.2,.int .i64 F2.1,.int .i64 F2.2.1,.int .i64 F2.2.2,.int .i64 F3.1,.int .i64 F3.2.1,.int .i64 F3.2.2] 29)=wf at *;refine hK.out _ _ hS (fun _=>?_);clear hK K hnb;try simp only[Act.put,Qz,Qy,Qx]
           refine wpAnyH_ready (rs:=[14]) (by kernel_rfl) (by simp) (AllReadyH.cons rfl (fun K hK=>?_) AllReadyH.nil);go_simp;go_at_call 88
           refine(hof _ _ hWb).mono ?_;rintro e wf ⟨rfl,bn⟩;try simp only[faV]
           try go_wp2
           have h4:=h4.call bn;have hS:=hS.call bn;refine hK.out _ _ hS (fun _=>?_);clear hK K bn;try simp only[Act.put,Qz,Qy,Qx]
           refine wpAnyH_ready (rs:=[16]) (by kernel_rfl) (by simp) (AllReadyH.cons rfl (fun K hK=>?_) AllReadyH.nil);obtain⟨e0,e1,e2,z0,z1,z2⟩:=Zl (h4.get 3 rfl);go_simp;have h5:=(show Env w [_,_,_,_] [] [] _ from h4.put 3 rfl (Zew (h4.get 3 rfl) (.int .i64 x0) (.int .i64 x1) (.int .i64 x2)))
           refine hK.out _ _ (h5.less (bs:=[_,_,_]) (cs:=[_]) (ts:=[]) (us:=[])) (fun hS=>?_);clear hK K e0 e1 e2 z0 z1 z2 h4;try simp only[Act.put,Qz,Qy,Qx]
           refine wpAnyH_done (by kernel_rfl) ?_ _;have T:=Hh h5;clear h5;obtain⟨y0,y1,y2,_,_,_⟩:=Zl (T.out.get 3 rfl);have hz2:=HZ.out;by_cases h0:x0=0
           · rw[if_pos h0]at hz2
             have HZ2:=Hh hz2;clear hz2;subst h0;go_wp2
             go_roundw
             case rel=>exact⟨m+1,by go_num,by omega,T.out.less (bs:=[_]) (cs:=[_,_,_]) (ts:=[]) (us:=[]),HZ2⟩
             case measure=>simp[intOf];omega
           · rw[if_neg h0]at hz2
             subst hz2;have hb0:(x0 == 0)=false:=by simpa using h0
             clear h0;go_wp2_with(first
 |((with_reducible refine at_ld 37 ?_);refine wpList_loadW 29 _ 29 _ [.int .i64 x0,.int .i64 x1,.int .i64 x2] (T.out.get 3 rfl) Zw Zf rfl rfl rfl ?_)
 |((with_reducible refine at_st 4 37 ?_);refine wpList_storeW 29 _ _ 29 g1 _ ([.int .i64 x0,.int .i64 x1,.int .i64 x2]) (T.out.get 0 rfl) rfl Zf (by simp[Value.oneCell']) rfl rfl rfl rfl rfl ?_;intro wd p;have T:=Hh (T.out.put 0 rfl p);clear p))
             exact Zj 4 29 29 g1 ([.int .i64 x0,.int .i64 x1,.int .i64 x2]) rfl (T.out.get 0 rfl) Zw Zf rfl rfl ⟨rfl,T.out.below⟩
       · go_simp
         obtain⟨g4,hg4⟩:∃ g,g=wf.heap.size:=⟨_,rfl⟩
         have hbx:=hS.box 29 [.int .i64 0,.int .i64 0,.int .i64 0];have hnb:=Za wf (.cells ([.int .i64 0,.int .i64 0,.int .i64 0]:List Value).toArray 29);rw[←hg4]at hbx ⊢;have hS:=hS.call hnb;skip
         generalize World.alloc wf (.cells ([.int .i64 0,.int .i64 0,.int .i64 0]:List Value).toArray 29)=wf at *;have h4:=(show Env w [_,_,_,(g4,29,[.int .i64 0,.int .i64 0,.int .i64 0])] [] [] wf from hbx)
         clear hbx hnb hg4;refine hK.out _ _ hS (fun _=>?_);clear hK K;try simp only[Act.put,Qz,Qy,Qx]
         refine wpAnyH_ready (rs:=[4]) (by kernel_rfl) (by simp) (AllReadyH.cons rfl (fun K hK=>?_) AllReadyH.nil);go_simp;go_at_call 140
         refine(hf1 _).mono ?_;rintro e wf ⟨rfl,bn⟩;try simp only[faV]
         try go_wp2
         have h4:=h4.call bn;have hS:=hS.call bn;refine hK.out _ _ hS (fun _=>?_);clear hK K bn;try simp only[Act.put,Qz,Qy,Qx]
         refine wpAnyH_ready (rs:=[8]) (by kernel_rfl) (by simp) (AllReadyH.cons rfl (fun K hK=>?_) AllReadyH.nil);go_simp;go_at_call 142
         refine(hac _ hS.below).mono ?_;rintro e wf ⟨rfl,bn⟩;try simp only[faV]
         try go_wp2
         have h4:=h4.call bn;have hS:=hS.call bn;refine hK.out _ _ hS (fun _=>?_);clear hK K bn;try simp only[Act.put,Qz,Qy,Qx]
         refine wpAnyH_ready (rs:=[11]) (by kernel_rfl) (by simp) (AllReadyH.cons rfl (fun K hK=>?_) AllReadyH.nil);go_simp;go_at_call 143
         refine(hbh _ hS.below).mono ?_;rintro e wf ⟨rfl,bn⟩;try simp only[faV]
         try go_wp2
         have h4:=h4.call bn;have hS:=hS.call bn;refine hK.out _ _ hS (fun _=>?_);clear hK K bn;try simp only[Act.put,Qz,Qy,Qx]
         refine wpAnyH_ready (rs:=[12]) (by kernel_rfl) (by simp) (AllReadyH.cons rfl (fun K hK=>?_) AllReadyH.nil);go_simp;go_at_call 140
         refine(hf3 _).mono ?_;rintro e wf ⟨rfl,bn⟩;try simp only[faV]
         try go_wp2
         have h4:=h4.call bn;have hS:=hS.call bn;refine hK.out _ _ hS (fun _=>?_);clear hK K bn;try simp only[Act.put,Qz,Qy,Qx]
         refine wpAnyH_ready (rs:=[13]) (by kernel_rfl) (by simp) (AllReadyH.cons rfl (fun K hK=>?_) AllReadyH.nil);go_simp;have hWb:Zb (World.alloc wf (.cells #[.int .i64 F1.1,.int .i64 F1.2.1,.int .i64 F1.2.2,.int .i64 F2.1,.int .i64 F2.2.1,.int .i64 F2.2.2,.int .i64 F3.1,.int .i64 F3.2.1,.int .i64 F3.2.2] 29)) wf.heap.size 29 ([F1,F2,F3].flatMap faL).toArray:=Zb.made _ _ _;have hnb:=Za wf (.cells #[.int .i64 F1.1,.int .i64 F1.2.1,.int .i64 F1.2.2,.int .i64 F2.1,.int .i64 F2.2.1,.int .i64 F2.2.2,.int .i64 F3.1,.int .i64 F3.2.1,.int .i64 F3.2.2] 29);have hS:=hS.call hnb;have h4:=h4.call hnb;generalize World.alloc wf (.cells #[.int .i64 F1.1,.int .i64 F1.2.1,.int .i64 F1.2.2,.int .i64 F2.1,.int .i64 F2.2.1,.int .i64 F2.2.2,.int .i64 F3.1,.int .i64 F3.2.1,.int .i64 F3.2.2] 29)=wf at *;refine hK.out _ _ hS (fun _=>?_);clear hK K hnb;try simp only[Act.put,Qz,Qy,Qx]
         refine wpAnyH_ready (rs:=[14]) (by kernel_rfl) (by simp) (AllReadyH.cons rfl (fun K hK=>?_) AllReadyH.nil);go_simp;go_at_call 88
         refine(hof _ _ hWb).mono ?_;rintro e wf ⟨rfl,bn⟩;try simp only[faV]
         try go_wp2
         have h4:=h4.call bn;have hS:=hS.call bn;refine hK.out _ _ hS (fun _=>?_);clear hK K bn;try simp only[Act.put,Qz,Qy,Qx]
         refine wpAnyH_ready (rs:=[16]) (by kernel_rfl) (by simp) (AllReadyH.cons rfl (fun K hK=>?_) AllReadyH.nil);obtain⟨e0,e1,e2,z0,z1,z2⟩:=Zl (h4.get 3 rfl);go_simp;have h5:=(show Env w [_,_,_,_] [] [] _ from h4.put 3 rfl (Zew (h4.get 3 rfl) (.int .i64 x0) (.int .i64 x1) (.int .i64 x2)))
         refine hK.out _ _ (h5.less (bs:=[_,_,_]) (cs:=[_]) (ts:=[]) (us:=[])) (fun hS=>?_);clear hK K e0 e1 e2 z0 z1 z2 h4;try simp only[Act.put,Qz,Qy,Qx]
         refine wpAnyH_done (by kernel_rfl) ?_ _;have T:=Hh h5;clear h5;obtain⟨y0,y1,y2,_,_,_⟩:=Zl (T.out.get 3 rfl);have hz2:=HZ.out;by_cases h0:x0=0
         · rw[if_pos h0]at hz2
           have HZ2:=Hh hz2;clear hz2;subst h0;go_wp2
           go_roundw
           case rel=>exact⟨m+1,by go_num,by omega,T.out.less (bs:=[_]) (cs:=[_,_,_]) (ts:=[]) (us:=[]),HZ2⟩
           case measure=>simp[intOf];omega
         · rw[if_neg h0]at hz2
           subst hz2;have hb0:(x0 == 0)=false:=by simpa using h0
           clear h0;go_wp2_with(first
 |((with_reducible refine at_ld 37 ?_);refine wpList_loadW 29 _ 29 _ [.int .i64 x0,.int .i64 x1,.int .i64 x2] (T.out.get 3 rfl) Zw Zf rfl rfl rfl ?_)
 | ((with_reducible refine at_st 4 37 ?_);refine wpList_storeW 29 _ _ 29 g1 _ ([.int .i64 x0,.int .i64 x1,.int .i64 x2]) (T.out.get 0 rfl) rfl Zf (by simp[Value.oneCell']) rfl rfl rfl rfl rfl ?_;intro wd p;have T:=Hh (T.out.put 0 rfl p);clear p))
           exact Zj 4 29 29 g1 ([.int .i64 x0,.int .i64 x1,.int .i64 x2]) rfl (T.out.get 0 rfl) Zw Zf rfl rfl ⟨rfl,T.out.below⟩
     · go_simp
       obtain⟨g4,hg4⟩:∃ g,g=wf.heap.size:=⟨_,rfl⟩
       have hbx:=hS.box 29 [.int .i64 0,.int .i64 0,.int .i64 0];have hnb:=Za wf (.cells ([.int .i64 0,.int .i64 0,.int .i64 0]:List Value).toArray 29);rw[←hg4]at hbx ⊢;have hS:=hS.call hnb;skip
       generalize World.alloc wf (.cells ([.int .i64 0,.int .i64 0,.int .i64 0]:List Value).toArray 29)=wf at *;have h4:=(show Env w [_,_,_,(g4,29,[.int .i64 0,.int .i64 0,.int .i64 0])] [] [] wf from hbx)
       clear hbx hnb hg4;refine hK.out _ _ hS (fun _=>?_);clear hK K;try simp only[Act.put,Qz,Qy,Qx]
       refine wpAnyH_ready (rs:=[3]) (by kernel_rfl) (by simp) (AllReadyH.cons rfl (fun K hK=>?_) AllReadyH.nil);go_simp;go_at_call 141
       refine(hbe _).mono ?_;rintro e wf ⟨rfl,bn⟩;try simp only[faV]
       try go_wp2
       have h4:=h4.call bn;have hS:=hS.call bn;refine hK.out _ _ hS (fun _=>?_);clear hK K bn;try simp only[Act.put,Qz,Qy,Qx]
       refine wpAnyH_ready (rs:=[4]) (by kernel_rfl) (by simp) (AllReadyH.cons rfl (fun K hK=>?_) AllReadyH.nil);go_simp;go_at_call 140
       refine(hf1 _).mono ?_;rintro e wf ⟨rfl,bn⟩;try simp only[faV]
       try go_wp2
       have h4:=h4.call bn;have hS:=hS.call bn;refine hK.out _ _ hS (fun _=>?_);clear hK K bn;try simp only[Act.put,Qz,Qy,Qx]
       refine wpAnyH_ready (rs:=[8]) (by kernel_rfl) (by simp) (AllReadyH.cons rfl (fun K hK=>?_) AllReadyH.nil);go_simp;go_at_call 142
       refine(hac _ hS.below).mono ?_;rintro e wf ⟨rfl,bn⟩;try simp only[faV]
       try go_wp2
       have h4:=h4.call bn;have hS:=hS.call bn;refine hK.out _ _ hS (fun _=>?_);clear hK K bn;try simp only[Act.put,Qz,Qy,Qx]
       refine wpAnyH_ready (rs:=[11]) (by kernel_rfl) (by simp) (AllReadyH.cons rfl (fun K hK=>?_) AllReadyH.nil);go_simp;go_at_call 143
       refine(hbh _ hS.below).mono ?_;rintro e wf ⟨rfl,bn⟩;try simp only[faV]
       try go_wp2
       have h4:=h4.call bn;have hS:=hS.call bn;refine hK.out _ _ hS (fun _=>?_);clear hK K bn;try simp only[Act.put,Qz,Qy,Qx]
       refine wpAnyH_ready (rs:=[12]) (by kernel_rfl) (by simp) (AllReadyH.cons rfl (fun K hK=>?_) AllReadyH.nil);go_simp;go_at_call 140
       refine(hf3 _).mono ?_;rintro e wf ⟨rfl,bn⟩;try simp only[faV]
       try go_wp2
       have h4:=h4.call bn;have hS:=hS.call bn;refine hK.out _ _ hS (fun _=>?_);clear hK K bn;try simp only[Act.put,Qz,Qy,Qx]
       refine wpAnyH_ready (rs:=[13]) (by kernel_rfl) (by simp) (AllReadyH.cons rfl (fun K hK=>?_) AllReadyH.nil);go_simp;have hWb:Zb (World.alloc wf (.cells #[.int .i64 F1.1,.int .i64 F1.2.1,.int .i64 F1.2.2,.int .i64 F2.1,.int .i64 F2.2.1,.int .i64 F2.2.2,.int .i64 F3.1,.int .i64 F3.2.1,.int .i64 F3.2.2] 29)) wf.heap.size 29 ([F1,F2,F3].flatMap faL).toArray:=Zb.made _ _ _;have hnb:=Za wf (.cells #[.int .i64 F1.1,.int .i64 F1.2.1,.int .i64 F1.2.2,.int .i64 F2.1,.int .i64 F2.2.1,.int .i64 F2.2.2,.int .i64 F3.1,.int .i64 F3.2.1,.int .i64 F3.2.2] 29);have hS:=hS.call hnb;have h4:=h4.call hnb;generalize World.alloc wf (.cells #[.int .i64 F1.1,.int .i64 F1.2.1,.int .i64 F1.2.2,.int .i64 F2.1,.int .i64 F2.2.1,.int .i64 F2.2.2,.int .i64 F3.1,.int .i64 F3.2.1,.int .i64 F3.2.2] 29)=wf at *;refine hK.out _ _ hS (fun _=>?_);clear hK K hnb;try simp only[Act.put,Qz,Qy,Qx]
       refine wpAnyH_ready (rs:=[14]) (by kernel_rfl) (by simp) (AllReadyH.cons rfl (fun K hK=>?_) AllReadyH.nil);go_simp;go_at_call 88
       refine(hof _ _ hWb).mono ?_;rintro e wf ⟨rfl,bn⟩;try simp only[faV]
       try go_wp2
       have h4:=h4.call bn;have hS:=hS.call bn;refine hK.out _ _ hS (fun _=>?_);clear hK K bn;try simp only[Act.put,Qz,Qy,Qx]
       refine wpAnyH_ready (rs:=[16]) (by kernel_rfl) (by simp) (AllReadyH.cons rfl (fun K hK=>?_) AllReadyH.nil);obtain⟨e0,e1,e2,z0,z1,z2⟩:=Zl (h4.get 3 rfl);go_simp;have h5:=(show Env w [_,_,_,_] [] [] _ from h4.put 3 rfl (Zew (h4.get 3 rfl) (.int .i64 x0) (.int .i64 x1) (.int .i64 x2)))
       refine hK.out _ _ (h5.less (bs:=[_,_,_]) (cs:=[_]) (ts:=[]) (us:=[])) (fun hS=>?_);clear hK K e0 e1 e2 z0 z1 z2 h4;try simp only[Act.put,Qz,Qy,Qx]
       refine wpAnyH_done (by kernel_rfl) ?_ _;have T:=Hh h5;clear h5;obtain⟨y0,y1,y2,_,_,_⟩:=Zl (T.out.get 3 rfl);have hz2:=HZ.out;by_cases h0:x0=0
       · rw[if_pos h0]at hz2
         have HZ2:=Hh hz2;clear hz2;subst h0;go_wp2
         go_roundw
         case rel=>exact⟨m+1,by go_num,by omega,T.out.less (bs:=[_]) (cs:=[_,_,_]) (ts:=[]) (us:=[]),HZ2⟩
         case measure=>simp[intOf];omega
       · rw[if_neg h0]at hz2
         subst hz2;have hb0:(x0 == 0)=false:=by simpa using h0
         clear h0;go_wp2_with(first
 |((with_reducible refine at_ld 37 ?_);refine wpList_loadW 29 _ 29 _ [.int .i64 x0,.int .i64 x1,.int .i64 x2] (T.out.get 3 rfl) Zw Zf rfl rfl rfl ?_)
 | ((with_reducible refine at_st 4 37 ?_);refine wpList_storeW 29 _ _ 29 g1 _ ([.int .i64 x0,.int .i64 x1,.int .i64 x2]) (T.out.get 0 rfl) rfl Zf (by simp[Value.oneCell']) rfl rfl rfl rfl rfl ?_;intro wd p;have T:=Hh (T.out.put 0 rfl p);clear p))
         exact Zj 4 29 29 g1 ([.int .i64 x0,.int .i64 x1,.int .i64 x2]) rfl (T.out.get 0 rfl) Zw Zf rfl rfl ⟨rfl,T.out.below⟩
   · have hz2:=hz.out
     rw[List.drop_of_length_le (by have:=HN.out;omega)]at hz2;have hz2:R=(0,0,0):=hz2;subst hz2;clear hz;go_wp2_with(first
 | ((with_reducible refine at_st 4 39 ?_);refine wpList_storeW 29 _ _ 29 g1 _ ([.int .i64 0,.int .i64 0,.int .i64 0]) (T.out.get 0 rfl) rfl Zf (by simp[Value.oneCell']) rfl rfl rfl rfl rfl ?_;intro wd p;have T:=Hh (T.out.put 0 rfl p);clear p))
     exact Zj 4 29 29 g1 ([.int .i64 0,.int .i64 0,.int .i64 0]) rfl (T.out.get 0 rfl) Zw Zf rfl rfl ⟨rfl,T.out.below⟩
end Go.Proofs.YtljdgdphldckhaaGreat
