/- Parts of the proof. No conditions but those that each names. -/
import Derived.Test.YtbdecchpleiepaaGreatQL27
set_option maxRecDepth 20000
set_option maxHeartbeats 99000000
set_option linter.unusedVariables false
set_option linter.unusedSimpArgs false
namespace Go.Proofs.YtbdecchpleiepaaGreat
open Go.Value renaming int→I,slice→Λ,pointer→Ω,oneCell'→Γ
open Go.IntKind renaming i64→J
open _root_.Go.Proofs.Tryz renaming prog→Φ
open And renaming intro→ζ
open Go.Ending renaming returned→η
open Go Go.RowKit
theorem Zhm:(Tryz.prog.underlying 41).map TypeDesc.isRow=some true:=by kernel_rfl
theorem Jj:(Tryz.prog.info? 41).map (·.size)=some 5:=by kernel_rfl
theorem lz_ru:(Tryz.prog.info? 41).map (fun i=>i.zero.map Value.cells)=some (some ([I J 0,I J 0,I J 0,I J 0,Λ none 0 0]:List Value).toArray):=by kernel_rfl
theorem lz_sc:(Tryz.prog.info? 107).map (fun i=>i.zero.map Value.cells)=some (some ([I J 0,I J 0,I J 0,I J 0,Λ none 0 0,.bool false,.bool false]:List Value).toArray):=by kernel_rfl
theorem rus_at{N:Nat→Prop}{w:World}:∀{l:List Ru}{xs:List Value},Zs N w (Un l) xs→∀(k:Nat)(hk:k<l.length),∃ pre ys post,xs=pre++ys++post∧pre.length=k*5∧Zs N w (l[k]'hk).ds ys
 |[],xs,_,k,hk=>by cases hk
 |x::r,xs,h,k,hk=>by
  obtain⟨a,b,rfl,h1,h2⟩:=Zs.split (x:=x.ds) h;cases k with
  |zero=>exact⟨[],a,b,rfl,by simp,h1⟩
  |succ k=>
   obtain⟨pre,ys,post,rfl,hp,hy⟩:=rus_at h2 k (by simpa using hk);have hl:a.length=5:=by rw[h1.len];rfl
   exact⟨a++pre,ys,post,by simp,by rw[List.length_append,hp,hl];omega,hy⟩
theorem Znq(p:Bool)(l:List Ru)(m:Nat)(h:m<l.length):Uy p m (l.drop m)=if(Zgo p m (l[m]'h)).1=0 then Uy p (m+1) (l.drop (m+1))else Zgo p m (l[m]'h):=by
 rw[List.drop_eq_getElem_cons h];rfl
theorem lRules_any (p:Bool)(l:List Ru)(w:World)(N:Nat→Prop)(v:Value)(hv:Zs N w (.row l.length (Un l) .nil) [v]) :
   Calls Φ 31 #[v,.bool p] w fun e w'=>e=η (faV (Uy p 0 l))∧Below w.heap.size w w':=by
 obtain⟨B,bc,xs,rfl,hn,hw,hd⟩:=hv.inRow;clear hv;obtain⟨n,hn0⟩:∃ n,n=l.length:=⟨_,rfl⟩
 rw[←hn0]at hn ⊢;have HN:=Hh hn0;have HW:=Hh (ζ hw hd);obtain⟨R,hR⟩:∃ R,R=Uy p 0 l:=⟨_,rfl⟩
 rw[←hR];have HV:=Hh hR;clear hw hd hn0 hR;have l63:(n:Int)≤9223372036854775807:=by omega
 obtain⟨place,hpl⟩:∃ q,q=p:=⟨_,rfl⟩
 subst hpl;have T:=Hh (Env.start w);go_enter Tryz.func31,Tryz.ntmps31;go_wp2_with(((with_reducible refine Zd 4 ?_);refine Zb T.out 29 _ rfl rfl Wu ?_;intro wa g1 tn;have T:=Hh tn;clear tn))
 go_loopw [11] (fun i wy=>∃ m:Nat,i=I J m∧m≤n∧Env w [(g1,29,[I J 0,I J 0,I J 0])] [] [] wy∧Hid (R=Uy place m (l.drop m))) (fun i _=>n - (intOf i).toNat)
 case atStart=>exact⟨0,by go_num,Nat.zero_le _,T.out,Hh (by rw[HV.out];rfl)⟩
 case round=>
   obtain⟨m,rfl,hm,hT,hz⟩:=hrel;have T:=Hh hT;clear hT;by_cases hlt:m<n
   · have hk1:m<l.length:=by rw[←HN.out];exact hlt
     obtain⟨pre,ys,post,hxs,hp,hy⟩:=rus_at HW.out.2 m hk1;have hyl:ys.length=5:=by rw[hy.len];rfl
     obtain⟨g,rfl,hg,hc⟩:=HW.out.1.reads (by rw[hxs];simp;omega);have hz2:=hz.out;rw[Znq _ l m hk1]at hz2;have hR:w.rangeAt g (m*5) ys:=Ut (by rw[hxs]at hc;exact hc) hp;generalize l[m]=r at *;obtain⟨whn,rst,rln,rcl,acts⟩:=r;obtain⟨_,rfl,_,rfl,_,rfl,_,rfl,D,rk,zs,_,rfl,hnn,hwz,hdz,rfl⟩:=hy;have hrow:Zs N w (.row acts.len acts.ds .nil) [Λ D acts.len rk]:=⟨D,rk,zs,[],rfl,hnn,hwz,hdz,rfl⟩
     have hbe:=fun x=>lBefore_any ⟨place,whn,false⟩ rst rln rcl D acts.len rk (m:Int) x
     have hfa:=fun e x=>lFault_any ⟨place,whn,false⟩ rst rln rcl D acts.len rk e x
     have hac:=fun x (hb:Below w.heap.size w x)=>lActs_ok acts ⟨place,whn,false⟩ rst rln rcl D acts.len rk x N _ (hrow.below hb)
     have hbh:=fun x (hb:Below w.heap.size w x)=>lBehind_any ⟨place,whn,false⟩ rst rln rcl D acts.len rk acts x N (hrow.below hb)
     have hru:Zgo place m ⟨whn,rst,rln,rcl,acts⟩=Jl [atF (Zap place m ⟨whn,rst,rln,rcl,.nil⟩) rln rcl,Vf ⟨place,whn,false⟩ 0 acts,atF (if 96<Go.Proofs.YtbdecchpleiepaaGreat.wr (We acts)then 3 else 0) rln rcl]:=by
       rw[orF3];rfl
     dsimp only[scL]at hbe hfa hac hbh;generalize Zap place m ⟨whn,rst,rln,rcl,.nil⟩=e1 at *;generalize Vf ⟨place,whn,false⟩ 0 acts=F2 at *;generalize(if 96<Go.Proofs.YtbdecchpleiepaaGreat.wr (We acts)then(3:Int)else 0)=e3 at *;have hf1:=hfa e1;have hf3:=hfa e3;generalize atF e1 rln rcl=F1 at *;generalize atF e3 rln rcl=F3 at *;have hof:=fun x g (hW:Zi x g 29 ([F1,F2,F3].flatMap faL).toArray)=>lOrF [F1,F2,F3] 3 3 g x rfl (by omega) hW
     rw[←hru]at hof;generalize Zgo place m ⟨whn,rst,rln,rcl,acts⟩=X at *;obtain⟨x0,x1,x2⟩:=X;dsimp only at hz2;have HR:Hid (∀ y,Below w.heap.size w y→y.rangeAt g (m*5) [I J whn,I J rst,I J rln,I J rcl,Λ D acts.len rk]):=Hh fun y hb j v hv=>(World.cell?_of_block (a:=⟨g,m*5+j,none⟩) (hb.block g hg)).trans (hR j v hv)
     have HZ:=Hh hz2;generalize acts.len=rn at *;clear hxs hp hc hR hk1 hz2 hz hyl hrow hnn hwz hdz hfa hru;have lk:(m:Int)<(n:Int):=by omega
     go_upto_region 5 with(first
 |((with_reducible refine Zd 15 ?_);refine Zw 41 _ g (m*5) [I J whn,I J rst,I J rln,I J rcl,Λ D rn rk] (HR.out _ T.out.below) Zhm Jj rfl rfl rfl ?_)
 |((with_reducible refine Zd 6 ?_);refine Zb T.out 41 _ rfl rfl lz_ru ?_;intro wc g2 tn;have T:=Hh tn;clear tn)
 |((with_reducible refine Zg 6 15 ?_);refine Za 41 _ _ 41 g2 _ ([I J whn,I J rst,I J rln,I J rcl,Λ D rn rk]) (T.out.get 1 rfl) rfl Jj (by simp[Γ]) rfl rfl rfl rfl rfl ?_;intro wd p;have T:=Hh (T.out.put 1 rfl p);clear p)
 |((with_reducible refine Zd 16 ?_);refine Zc 41 _ 41 g2 ([I J whn,I J rst,I J rln,I J rcl,Λ D rn rk]) (T.out.get 1 rfl) Zhm Jj rfl rfl rfl ?_)
 |((with_reducible refine Zd 7 ?_);refine Zb T.out 107 _ rfl rfl lz_sc ?_;intro wf g3 tn;have T:=Hh tn;clear tn)
 | ((with_reducible refine Zg 7 18 ?_);refine Za 107 _ _ 107 g3 _ ([I J whn,I J rst,I J rln,I J rcl,Λ D rn rk,.bool place,.bool false]) (T.out.get 2 rfl) rfl Zcf (by simp[Γ]) rfl rfl rfl rfl rfl ?_;intro wd p;have T:=Hh (T.out.put 2 rfl p);clear p))
     refine wp_region_held_drew (S:=fun x=>Env w [(g1,29,[I J 0,I J 0,I J 0]),(g2,41,[I J whn,I J rst,I J rln,I J rcl,Λ D rn rk]),(g3,107,[I J whn,I J rst,I J rln,I J rcl,Λ D rn rk,.bool place,.bool false])] [] [] x) (by kernel_rfl) T.out.drew (fun hS=>?_);generalize wd.drew=wf at *;refine Yv (i:=0) (v:=.agg ([I J whn,I J rst,I J rln,I J rcl,Λ D rn rk,.bool place,.bool false]:List Value).toArray) rfl rfl (by kernel_rfl) (by kernel_rfl) (by kernel_rfl) (fun _ _ _ h=>h) (Ui rfl rfl rfl (fun y hy=>(Env.get hy 2 rfl).range0) Zex Zcf) hS ?_;try simp only[Qy,Qx]
     refine Yv (i:=1) (v:=.agg ([I J whn,I J rst,I J rln,I J rcl,Λ D rn rk,.bool place,.bool false]:List Value).toArray) rfl rfl (by kernel_rfl) (by kernel_rfl) (by kernel_rfl) (fun _ _ _ h=>h) (Ui rfl rfl rfl (fun y hy=>(Env.get hy 2 rfl).range0) Zex Zcf) hS ?_;try simp only[Qy,Qx]
     refine Yv (i:=2) (v:=I J (m:Int)) rfl rfl (by kernel_rfl) (by kernel_rfl) (by kernel_rfl) (fun _ _ _ h=>h) (Zds rfl rfl rfl) hS ?_;try simp only[Qy,Qx]
     refine Yv (i:=5) (v:=.agg ([I J whn,I J rst,I J rln,I J rcl,Λ D rn rk,.bool place,.bool false]:List Value).toArray) rfl rfl (by kernel_rfl) (by kernel_rfl) (by kernel_rfl) (fun _ _ _ h=>h) (Ui rfl rfl rfl (fun y hy=>(Env.get hy 2 rfl).range0) Zex Zcf) hS ?_;try simp only[Qy,Qx]
     refine Yv (i:=6) (v:=Ω (some ⟨g2,4,none⟩)) rfl rfl (by kernel_rfl) (by kernel_rfl) (by kernel_rfl) (fun _ _ _ h=>h) (Or.inl ⟨by rfl,fun y hy=>by go_simp⟩) hS ?_;try simp only[Qy,Qx]
     refine Yv (i:=7) (v:=Λ D rn rk) rfl rfl (by kernel_rfl) (by kernel_rfl) (by kernel_rfl) (fun _ _ _ h=>h) (Or.inl ⟨by rfl,fun y hy=>by have c0:=(Env.get hy 1 rfl).read 4;go_simp⟩) hS ?_;try simp only[Qy,Qx]
     refine Yv (i:=9) (v:=.agg ([I J whn,I J rst,I J rln,I J rcl,Λ D rn rk,.bool place,.bool false]:List Value).toArray) rfl rfl (by kernel_rfl) (by kernel_rfl) (by kernel_rfl) (fun _ _ _ h=>h) (Ui rfl rfl rfl (fun y hy=>(Env.get hy 2 rfl).range0) Zex Zcf) hS ?_;try simp only[Qy,Qx]
     refine Yv (i:=10) (v:=.agg ([I J whn,I J rst,I J rln,I J rcl,Λ D rn rk,.bool place,.bool false]:List Value).toArray) rfl rfl (by kernel_rfl) (by kernel_rfl) (by kernel_rfl) (fun _ _ _ h=>h) (Ui rfl rfl rfl (fun y hy=>(Env.get hy 2 rfl).range0) Zex Zcf) hS ?_;try simp only[Qy,Qx]
     refine wpAnyH_ready (rs:=[3,15]) (by kernel_rfl) (by simp) (AllReadyH.cons rfl (fun K hK=>?_) (AllReadyH.cons rfl (fun K hK=>?_) AllReadyH.nil))
     · go_simp
       go_at_call 49
       refine(hbe _).mono ?_;rintro e wf ⟨rfl,bn⟩;try simp only[faV]
       try go_wp2
       skip
       have hS:=hS.call bn;refine hK.out _ _ hS (fun _=>?_);clear hK K bn;try simp only[Act.put,Qz,Qy,Qx]
       refine wpAnyH_ready (rs:=[4,15]) (by kernel_rfl) (by simp) (AllReadyH.cons rfl (fun K hK=>?_) (AllReadyH.cons rfl (fun K hK=>?_) AllReadyH.nil))
       · go_simp
         go_at_call 48
         refine(hf1 _).mono ?_;rintro e wf ⟨rfl,bn⟩;try simp only[faV]
         try go_wp2
         skip
         have hS:=hS.call bn;refine hK.out _ _ hS (fun _=>?_);clear hK K bn;try simp only[Act.put,Qz,Qy,Qx]
         refine wpAnyH_ready (rs:=[8,15]) (by kernel_rfl) (by simp) (AllReadyH.cons rfl (fun K hK=>?_) (AllReadyH.cons rfl (fun K hK=>?_) AllReadyH.nil))
         · go_simp
           go_at_call 50
           refine(hac _ hS.below).mono ?_;rintro e wf ⟨rfl,bn⟩;try simp only[faV]
           try go_wp2
           skip
           have hS:=hS.call bn;refine hK.out _ _ hS (fun _=>?_);clear hK K bn;try simp only[Act.put,Qz,Qy,Qx]
           refine wpAnyH_ready (rs:=[11,15]) (by kernel_rfl) (by simp) (AllReadyH.cons rfl (fun K hK=>?_) (AllReadyH.cons rfl (fun K hK=>?_) AllReadyH.nil))
           · go_simp
             go_at_call 51
             refine(hbh _ hS.below).mono ?_;rintro e wf ⟨rfl,bn⟩;try simp only[faV]
             try go_wp2
             skip
             have hS:=hS.call bn;refine hK.out _ _ hS (fun _=>?_);clear hK K bn;try simp only[Act.put,Qz,Qy,Qx]
             refine wpAnyH_ready (rs:=[12,15]) (by kernel_rfl) (by simp) (AllReadyH.cons rfl (fun K hK=>?_) (AllReadyH.cons rfl (fun K hK=>?_) AllReadyH.nil))
             · go_simp
               go_at_call 48
               refine(hf3 _).mono ?_;rintro e wf ⟨rfl,bn⟩;try simp only[faV]
               try go_wp2
               skip
               have hS:=hS.call bn;refine hK.out _ _ hS (fun _=>?_);clear hK K bn;try simp only[Act.put,Qz,Qy,Qx]
               refine wpAnyH_ready (rs:=[13,15]) (by kernel_rfl) (by simp) (AllReadyH.cons rfl (fun K hK=>?_) (AllReadyH.cons rfl (fun K hK=>?_) AllReadyH.nil))
               · go_simp
                 have hWb:Zi (World.alloc wf (.cells #[I J F1.1,I J F1.2.1,I J F1.2.2,I J F2.1,I J F2.2.1,I J F2.2.2,I J F3.1,I J F3.2.1,I J F3.2.2] 29)) wf.heap.size 29 ([F1,F2,F3].flatMap faL).toArray:=Zi.made _ _ _;have hnb:=Zh wf (.cells #[I J F1.1,I J F1.2.1,I J F1.2.2,I J F2.1,I J F2.2.1,I J F2.2.2,I J F3.1,I J F3.2.1,I J F3.2.2] 29);have hS:=hS.call hnb;skip
                 generalize World.alloc wf (.cells #[I J F1.1,I J F1.2.1,I J F1.2.2,I J F2.1,I J F2.2.1,I J F2.2.2,I J F3.1,I J F3.2.1,I J F3.2.2] 29)=wf at *;refine hK.out _ _ hS (fun _=>?_);clear hK K hnb;try simp only[Act.put,Qz,Qy,Qx]
                 refine wpAnyH_ready (rs:=[14,15]) (by kernel_rfl) (by simp) (AllReadyH.cons rfl (fun K hK=>?_) (AllReadyH.cons rfl (fun K hK=>?_) AllReadyH.nil))
                 · go_simp
                   go_at_call 27
                   refine(hof _ _ hWb).mono ?_;rintro e wf ⟨rfl,bn⟩;try simp only[faV]
                   try go_wp2
                   skip
                   have hS:=hS.call bn;refine hK.out _ _ hS (fun _=>?_);clear hK K bn;try simp only[Act.put,Qz,Qy,Qx]
                   refine wpAnyH_ready (rs:=[15]) (by kernel_rfl) (by simp) (AllReadyH.cons rfl (fun K hK=>?_) AllReadyH.nil);go_simp;obtain⟨g4,hg4⟩:∃ g,g=wf.heap.size:=⟨_,rfl⟩
                   have hbx:=hS.box 29 [I J 0,I J 0,I J 0];have hnb:=Zh wf (.cells ([I J 0,I J 0,I J 0]:List Value).toArray 29);rw[←hg4]at hbx ⊢;have hS:=hS.call hnb;skip
                   generalize World.alloc wf (.cells ([I J 0,I J 0,I J 0]:List Value).toArray 29)=wf at *;have h4:=(show Env w [_,_,_,(g4,29,[I J 0,I J 0,I J 0])] [] [] wf from hbx)
                   clear hbx hnb hg4;refine hK.out _ _ hS (fun _=>?_);clear hK K;try simp only[Act.put,Qz,Qy,Qx]
                   refine wpAnyH_ready (rs:=[16]) (by kernel_rfl) (by simp) (AllReadyH.cons rfl (fun K hK=>?_) AllReadyH.nil);obtain⟨e0,e1,e2,z0,z1,z2⟩:=Zo (h4.get 3 rfl);go_simp;have h5:=(show Env w [_,_,_,_] [] [] _ from h4.put 3 rfl (Zir (h4.get 3 rfl) (I J x0) (I J x1) (I J x2)))
                   refine hK.out _ _ (h5.less (bs:=[_,_,_]) (cs:=[_]) (ts:=[]) (us:=[])) (fun hS=>?_);clear hK K e0 e1 e2 z0 z1 z2 h4;try simp only[Act.put,Qz,Qy,Qx]
                   refine wpAnyH_done (by kernel_rfl) ?_ _;have T:=Hh h5;clear h5;obtain⟨y0,y1,y2,_,_,_⟩:=Zo (T.out.get 3 rfl);have hz2:=HZ.out;by_cases h0:x0=0
                   · rw[if_pos h0]at hz2
                     have HZ2:=Hh hz2;clear hz2;subst h0;go_wp2
                     go_roundw
                     case rel=>exact⟨m+1,by go_num,by omega,T.out.less (bs:=[_]) (cs:=[_,_,_]) (ts:=[]) (us:=[]),HZ2⟩
                     case measure=>simp[intOf];omega
                   · rw[if_neg h0]at hz2
                     subst hz2;have hb0:(x0 == 0)=false:=by simpa using h0
                     clear h0;go_wp2_with(first
 |((with_reducible refine Zd 37 ?_);refine Zc 29 _ 29 _ [I J x0,I J x1,I J x2] (T.out.get 3 rfl) Yf Zj rfl rfl rfl ?_)
 |((with_reducible refine Zg 4 37 ?_);refine Za 29 _ _ 29 g1 _ ([I J x0,I J x1,I J x2]) (T.out.get 0 rfl) rfl Zj (by simp[Γ]) rfl rfl rfl rfl rfl ?_;intro wd p;have T:=Hh (T.out.put 0 rfl p);clear p))
                     exact Ya 4 29 29 g1 ([I J x0,I J x1,I J x2]) rfl (T.out.get 0 rfl) Yf Zj rfl rfl ⟨rfl,T.out.below⟩
                 · go_simp
                   obtain⟨g4,hg4⟩:∃ g,g=wf.heap.size:=⟨_,rfl⟩
                   have hbx:=hS.box 29 [I J 0,I J 0,I J 0];have hnb:=Zh wf (.cells ([I J 0,I J 0,I J 0]:List Value).toArray 29);rw[←hg4]at hbx ⊢;have hS:=hS.call hnb;have hWb:=hWb.below hnb hWb.inside;generalize World.alloc wf (.cells ([I J 0,I J 0,I J 0]:List Value).toArray 29)=wf at *;have h4:=(show Env w [_,_,_,(g4,29,[I J 0,I J 0,I J 0])] [] [] wf from hbx)
                   clear hbx hnb hg4;refine hK.out _ _ hS (fun _=>?_);clear hK K;try simp only[Act.put,Qz,Qy,Qx]
                   refine wpAnyH_ready (rs:=[14]) (by kernel_rfl) (by simp) (AllReadyH.cons rfl (fun K hK=>?_) AllReadyH.nil);go_simp;go_at_call 27
                   refine(hof _ _ hWb).mono ?_;rintro e wf ⟨rfl,bn⟩;try simp only[faV]
                   try go_wp2
                   have h4:=h4.call bn;have hS:=hS.call bn;refine hK.out _ _ hS (fun _=>?_);clear hK K bn;try simp only[Act.put,Qz,Qy,Qx]
                   refine wpAnyH_ready (rs:=[16]) (by kernel_rfl) (by simp) (AllReadyH.cons rfl (fun K hK=>?_) AllReadyH.nil);obtain⟨e0,e1,e2,z0,z1,z2⟩:=Zo (h4.get 3 rfl);go_simp;have h5:=(show Env w [_,_,_,_] [] [] _ from h4.put 3 rfl (Zir (h4.get 3 rfl) (I J x0) (I J x1) (I J x2)))
                   refine hK.out _ _ (h5.less (bs:=[_,_,_]) (cs:=[_]) (ts:=[]) (us:=[])) (fun hS=>?_);clear hK K e0 e1 e2 z0 z1 z2 h4;try simp only[Act.put,Qz,Qy,Qx]
                   refine wpAnyH_done (by kernel_rfl) ?_ _;have T:=Hh h5;clear h5;obtain⟨y0,y1,y2,_,_,_⟩:=Zo (T.out.get 3 rfl);have hz2:=HZ.out;by_cases h0:x0=0
                   · rw[if_pos h0]at hz2
                     have HZ2:=Hh hz2;clear hz2;subst h0;go_wp2
                     go_roundw
                     case rel=>exact⟨m+1,by go_num,by omega,T.out.less (bs:=[_]) (cs:=[_,_,_]) (ts:=[]) (us:=[]),HZ2⟩
                     case measure=>simp[intOf];omega
                   · rw[if_neg h0]at hz2
                     subst hz2;have hb0:(x0 == 0)=false:=by simpa using h0
                     clear h0;go_wp2_with(first
 |((with_reducible refine Zd 37 ?_);refine Zc 29 _ 29 _ [I J x0,I J x1,I J x2] (T.out.get 3 rfl) Yf Zj rfl rfl rfl ?_)
 |((with_reducible refine Zg 4 37 ?_);refine Za 29 _ _ 29 g1 _ ([I J x0,I J x1,I J x2]) (T.out.get 0 rfl) rfl Zj (by simp[Γ]) rfl rfl rfl rfl rfl ?_;intro wd p;have T:=Hh (T.out.put 0 rfl p);clear p))
                     exact Ya 4 29 29 g1 ([I J x0,I J x1,I J x2]) rfl (T.out.get 0 rfl) Yf Zj rfl rfl ⟨rfl,T.out.below⟩
               · go_simp
                 obtain⟨g4,hg4⟩:∃ g,g=wf.heap.size:=⟨_,rfl⟩
                 have hbx:=hS.box 29 [I J 0,I J 0,I J 0];have hnb:=Zh wf (.cells ([I J 0,I J 0,I J 0]:List Value).toArray 29);rw[←hg4]at hbx ⊢;have hS:=hS.call hnb;skip
                 generalize World.alloc wf (.cells ([I J 0,I J 0,I J 0]:List Value).toArray 29)=wf at *;have h4:=(show Env w [_,_,_,(g4,29,[I J 0,I J 0,I J 0])] [] [] wf from hbx)
                 clear hbx hnb hg4;refine hK.out _ _ hS (fun _=>?_);clear hK K;try simp only[Act.put,Qz,Qy,Qx]
                 refine wpAnyH_ready (rs:=[13]) (by kernel_rfl) (by simp) (AllReadyH.cons rfl (fun K hK=>?_) AllReadyH.nil);go_simp;have hWb:Zi (World.alloc wf (.cells #[I J F1.1,I J F1.2.1,I J F1.2.2,I J F2.1,I J F2.2.1,I J F2.2.2,I J F3.1,I J F3.2.1,I J F3.2.2] 29)) wf.heap.size 29 ([F1,F2,F3].flatMap faL).toArray:=Zi.made _ _ _;have hnb:=Zh wf (.cells #[I J F1.1,I J F1.2.1,I J F1.2.2,I J F2.1,I J F2.2.1,I J F2.2.2,I J F3.1,I J F3.2.1,I J F3.2.2] 29);have hS:=hS.call hnb;have h4:=h4.call hnb;generalize World.alloc wf (.cells #[I J F1.1,I J F1.2.1,I J F1.2.2,I J F2.1,I J F2.2.1,I J F2.2.2,I J F3.1,I J F3.2.1,I J F3.2.2] 29)=wf at *;refine hK.out _ _ hS (fun _=>?_);clear hK K hnb;try simp only[Act.put,Qz,Qy,Qx]
                 refine wpAnyH_ready (rs:=[14]) (by kernel_rfl) (by simp) (AllReadyH.cons rfl (fun K hK=>?_) AllReadyH.nil);go_simp;go_at_call 27
                 refine(hof _ _ hWb).mono ?_;rintro e wf ⟨rfl,bn⟩;try simp only[faV]
                 try go_wp2
                 have h4:=h4.call bn;have hS:=hS.call bn;refine hK.out _ _ hS (fun _=>?_);clear hK K bn;try simp only[Act.put,Qz,Qy,Qx]
                 refine wpAnyH_ready (rs:=[16]) (by kernel_rfl) (by simp) (AllReadyH.cons rfl (fun K hK=>?_) AllReadyH.nil);obtain⟨e0,e1,e2,z0,z1,z2⟩:=Zo (h4.get 3 rfl);go_simp;have h5:=(show Env w [_,_,_,_] [] [] _ from h4.put 3 rfl (Zir (h4.get 3 rfl) (I J x0) (I J x1) (I J x2)))
                 refine hK.out _ _ (h5.less (bs:=[_,_,_]) (cs:=[_]) (ts:=[]) (us:=[])) (fun hS=>?_);clear hK K e0 e1 e2 z0 z1 z2 h4;try simp only[Act.put,Qz,Qy,Qx]
                 refine wpAnyH_done (by kernel_rfl) ?_ _;have T:=Hh h5;clear h5;obtain⟨y0,y1,y2,_,_,_⟩:=Zo (T.out.get 3 rfl);have hz2:=HZ.out;by_cases h0:x0=0
                 · rw[if_pos h0]at hz2
                   have HZ2:=Hh hz2;clear hz2;subst h0;go_wp2
                   go_roundw
                   case rel=>exact⟨m+1,by go_num,by omega,T.out.less (bs:=[_]) (cs:=[_,_,_]) (ts:=[]) (us:=[]),HZ2⟩
                   case measure=>simp[intOf];omega
                 · rw[if_neg h0]at hz2
                   subst hz2;have hb0:(x0 == 0)=false:=by simpa using h0
                   clear h0;go_wp2_with(first
 |((with_reducible refine Zd 37 ?_);refine Zc 29 _ 29 _ [I J x0,I J x1,I J x2] (T.out.get 3 rfl) Yf Zj rfl rfl rfl ?_)
 |((with_reducible refine Zg 4 37 ?_);refine Za 29 _ _ 29 g1 _ ([I J x0,I J x1,I J x2]) (T.out.get 0 rfl) rfl Zj (by simp[Γ]) rfl rfl rfl rfl rfl ?_;intro wd p;have T:=Hh (T.out.put 0 rfl p);clear p))
                   exact Ya 4 29 29 g1 ([I J x0,I J x1,I J x2]) rfl (T.out.get 0 rfl) Yf Zj rfl rfl ⟨rfl,T.out.below⟩
             · go_simp
               obtain⟨g4,hg4⟩:∃ g,g=wf.heap.size:=⟨_,rfl⟩
               have hbx:=hS.box 29 [I J 0,I J 0,I J 0];have hnb:=Zh wf (.cells ([I J 0,I J 0,I J 0]:List Value).toArray 29);rw[←hg4]at hbx ⊢;have hS:=hS.call hnb;skip
               generalize World.alloc wf (.cells ([I J 0,I J 0,I J 0]:List Value).toArray 29)=wf at *;have h4:=(show Env w [_,_,_,(g4,29,[I J 0,I J 0,I J 0])] [] [] wf from hbx)
               clear hbx hnb hg4;refine hK.out _ _ hS (fun _=>?_);clear hK K;try simp only[Act.put,Qz,Qy,Qx]
               refine wpAnyH_ready (rs:=[12]) (by kernel_rfl) (by simp) (AllReadyH.cons rfl (fun K hK=>?_) AllReadyH.nil);go_simp;go_at_call 48
               refine(hf3 _).mono ?_;rintro e wf ⟨rfl,bn⟩;try simp only[faV]
               try go_wp2
               have h4:=h4.call bn;have hS:=hS.call bn;refine hK.out _ _ hS (fun _=>?_);clear hK K bn;try simp only[Act.put,Qz,Qy,Qx]
               refine wpAnyH_ready (rs:=[13]) (by kernel_rfl) (by simp) (AllReadyH.cons rfl (fun K hK=>?_) AllReadyH.nil);go_simp;have hWb:Zi (World.alloc wf (.cells #[I J F1.1,I J F1.2.1,I J F1.2.2,I J F2.1,I J F2.2.1,I J F2.2.2,I J F3.1,I J F3.2.1,I J F3.2.2] 29)) wf.heap.size 29 ([F1,F2,F3].flatMap faL).toArray:=Zi.made _ _ _;have hnb:=Zh wf (.cells #[I J F1.1,I J F1.2.1,I J F1.2.2,I J F2.1,I J F2.2.1,I J F2.2.2,I J F3.1,I J F3.2.1,I J F3.2.2] 29);have hS:=hS.call hnb;have h4:=h4.call hnb;generalize World.alloc wf (.cells #[I J F1.1,I J F1.2.1,I J F1.2.2,I J F2.1,I J F2.2.1,I J F2.2.2,I J F3.1,I J F3.2.1,I J F3.2.2] 29)=wf at *;refine hK.out _ _ hS (fun _=>?_);clear hK K hnb;try simp only[Act.put,Qz,Qy,Qx]
               refine wpAnyH_ready (rs:=[14]) (by kernel_rfl) (by simp) (AllReadyH.cons rfl (fun K hK=>?_) AllReadyH.nil);go_simp;go_at_call 27
               refine(hof _ _ hWb).mono ?_;rintro e wf ⟨rfl,bn⟩;try simp only[faV]
               try go_wp2
               have h4:=h4.call bn;have hS:=hS.call bn;refine hK.out _ _ hS (fun _=>?_);clear hK K bn;try simp only[Act.put,Qz,Qy,Qx]
               refine wpAnyH_ready (rs:=[16]) (by kernel_rfl) (by simp) (AllReadyH.cons rfl (fun K hK=>?_) AllReadyH.nil);obtain⟨e0,e1,e2,z0,z1,z2⟩:=Zo (h4.get 3 rfl);go_simp;have h5:=(show Env w [_,_,_,_] [] [] _ from h4.put 3 rfl (Zir (h4.get 3 rfl) (I J x0) (I J x1) (I J x2)))
               refine hK.out _ _ (h5.less (bs:=[_,_,_]) (cs:=[_]) (ts:=[]) (us:=[])) (fun hS=>?_);clear hK K e0 e1 e2 z0 z1 z2 h4;try simp only[Act.put,Qz,Qy,Qx]
               refine wpAnyH_done (by kernel_rfl) ?_ _;have T:=Hh h5;clear h5;obtain⟨y0,y1,y2,_,_,_⟩:=Zo (T.out.get 3 rfl);have hz2:=HZ.out;by_cases h0:x0=0
               · rw[if_pos h0]at hz2
                 have HZ2:=Hh hz2;clear hz2;subst h0;go_wp2
                 go_roundw
                 case rel=>exact⟨m+1,by go_num,by omega,T.out.less (bs:=[_]) (cs:=[_,_,_]) (ts:=[]) (us:=[]),HZ2⟩
                 case measure=>simp[intOf];omega
               · rw[if_neg h0]at hz2
                 subst hz2;have hb0:(x0 == 0)=false:=by simpa using h0
                 clear h0;go_wp2_with(first
 |((with_reducible refine Zd 37 ?_);refine Zc 29 _ 29 _ [I J x0,I J x1,I J x2] (T.out.get 3 rfl) Yf Zj rfl rfl rfl ?_)
 |((with_reducible refine Zg 4 37 ?_);refine Za 29 _ _ 29 g1 _ ([I J x0,I J x1,I J x2]) (T.out.get 0 rfl) rfl Zj (by simp[Γ]) rfl rfl rfl rfl rfl ?_;intro wd p;have T:=Hh (T.out.put 0 rfl p);clear p))
                 exact Ya 4 29 29 g1 ([I J x0,I J x1,I J x2]) rfl (T.out.get 0 rfl) Yf Zj rfl rfl ⟨rfl,T.out.below⟩
           · go_simp
             obtain⟨g4,hg4⟩:∃ g,g=wf.heap.size:=⟨_,rfl⟩
             have hbx:=hS.box 29 [I J 0,I J 0,I J 0];have hnb:=Zh wf (.cells ([I J 0,I J 0,I J 0]:List Value).toArray 29);rw[←hg4]at hbx ⊢;have hS:=hS.call hnb;skip
             generalize World.alloc wf (.cells ([I J 0,I J 0,I J 0]:List Value).toArray 29)=wf at *;have h4:=(show Env w [_,_,_,(g4,29,[I J 0,I J 0,I J 0])] [] [] wf from hbx)
             clear hbx hnb hg4;refine hK.out _ _ hS (fun _=>?_);clear hK K;try simp only[Act.put,Qz,Qy,Qx]
             refine wpAnyH_ready (rs:=[11]) (by kernel_rfl) (by simp) (AllReadyH.cons rfl (fun K hK=>?_) AllReadyH.nil);go_simp;go_at_call 51
             refine(hbh _ hS.below).mono ?_;rintro e wf ⟨rfl,bn⟩;try simp only[faV]
             try go_wp2
             have h4:=h4.call bn;have hS:=hS.call bn;refine hK.out _ _ hS (fun _=>?_);clear hK K bn;try simp only[Act.put,Qz,Qy,Qx]
             refine wpAnyH_ready (rs:=[12]) (by kernel_rfl) (by simp) (AllReadyH.cons rfl (fun K hK=>?_) AllReadyH.nil);go_simp;go_at_call 48
             refine(hf3 _).mono ?_;rintro e wf ⟨rfl,bn⟩;try simp only[faV]
             try go_wp2
             have h4:=h4.call bn;have hS:=hS.call bn;refine hK.out _ _ hS (fun _=>?_);clear hK K bn;try simp only[Act.put,Qz,Qy,Qx]
             refine wpAnyH_ready (rs:=[13]) (by kernel_rfl) (by simp) (AllReadyH.cons rfl (fun K hK=>?_) AllReadyH.nil);go_simp;have hWb:Zi (World.alloc wf (.cells #[I J F1.1,I J F1.2.1,I J F1.2.2,I J F2.1,I J F2.2.1,I J F2.2.2,I J F3.1,I J F3.2.1,I J F3.2.2] 29)) wf.heap.size 29 ([F1,F2,F3].flatMap faL).toArray:=Zi.made _ _ _;have hnb:=Zh wf (.cells #[I J F1.1,I J F1.2.1,I J F1.2.2,I J F2.1,I J F2.2.1,I J F2.2.2,I J F3.1,I J F3.2.1,I J F3.2.2] 29);have hS:=hS.call hnb;have h4:=h4.call hnb;generalize World.alloc wf (.cells #[I J F1.1,I J F1.2.1,I J F1.2.2,I J F2.1,I J F2.2.1,I J F2.2.2,I J F3.1,I J F3.2.1,I J F3.2.2] 29)=wf at *;refine hK.out _ _ hS (fun _=>?_);clear hK K hnb;try simp only[Act.put,Qz,Qy,Qx]
             refine wpAnyH_ready (rs:=[14]) (by kernel_rfl) (by simp) (AllReadyH.cons rfl (fun K hK=>?_) AllReadyH.nil);go_simp;go_at_call 27
             refine(hof _ _ hWb).mono ?_;rintro e wf ⟨rfl,bn⟩;try simp only[faV]
             try go_wp2
             have h4:=h4.call bn;have hS:=hS.call bn;refine hK.out _ _ hS (fun _=>?_);clear hK K bn;try simp only[Act.put,Qz,Qy,Qx]
             refine wpAnyH_ready (rs:=[16]) (by kernel_rfl) (by simp) (AllReadyH.cons rfl (fun K hK=>?_) AllReadyH.nil);obtain⟨e0,e1,e2,z0,z1,z2⟩:=Zo (h4.get 3 rfl);go_simp;have h5:=(show Env w [_,_,_,_] [] [] _ from h4.put 3 rfl (Zir (h4.get 3 rfl) (I J x0) (I J x1) (I J x2)))
             refine hK.out _ _ (h5.less (bs:=[_,_,_]) (cs:=[_]) (ts:=[]) (us:=[])) (fun hS=>?_);clear hK K e0 e1 e2 z0 z1 z2 h4;try simp only[Act.put,Qz,Qy,Qx]
             refine wpAnyH_done (by kernel_rfl) ?_ _;have T:=Hh h5;clear h5;obtain⟨y0,y1,y2,_,_,_⟩:=Zo (T.out.get 3 rfl);have hz2:=HZ.out;by_cases h0:x0=0
             · rw[if_pos h0]at hz2
               have HZ2:=Hh hz2;clear hz2;subst h0;go_wp2
               go_roundw
               case rel=>exact⟨m+1,by go_num,by omega,T.out.less (bs:=[_]) (cs:=[_,_,_]) (ts:=[]) (us:=[]),HZ2⟩
               case measure=>simp[intOf];omega
             · rw[if_neg h0]at hz2
               subst hz2;have hb0:(x0 == 0)=false:=by simpa using h0
               clear h0;go_wp2_with(first
 |((with_reducible refine Zd 37 ?_);refine Zc 29 _ 29 _ [I J x0,I J x1,I J x2] (T.out.get 3 rfl) Yf Zj rfl rfl rfl ?_)
 |((with_reducible refine Zg 4 37 ?_);refine Za 29 _ _ 29 g1 _ ([I J x0,I J x1,I J x2]) (T.out.get 0 rfl) rfl Zj (by simp[Γ]) rfl rfl rfl rfl rfl ?_;intro wd p;have T:=Hh (T.out.put 0 rfl p);clear p))
               exact Ya 4 29 29 g1 ([I J x0,I J x1,I J x2]) rfl (T.out.get 0 rfl) Yf Zj rfl rfl ⟨rfl,T.out.below⟩
         · go_simp
           obtain⟨g4,hg4⟩:∃ g,g=wf.heap.size:=⟨_,rfl⟩
           have hbx:=hS.box 29 [I J 0,I J 0,I J 0];have hnb:=Zh wf (.cells ([I J 0,I J 0,I J 0]:List Value).toArray 29);rw[←hg4]at hbx ⊢;have hS:=hS.call hnb;skip
           generalize World.alloc wf (.cells ([I J 0,I J 0,I J 0]:List Value).toArray 29)=wf at *;have h4:=(show Env w [_,_,_,(g4,29,[I J 0,I J 0,I J 0])] [] [] wf from hbx)
           clear hbx hnb hg4;refine hK.out _ _ hS (fun _=>?_);clear hK K;try simp only[Act.put,Qz,Qy,Qx]
           refine wpAnyH_ready (rs:=[8]) (by kernel_rfl) (by simp) (AllReadyH.cons rfl (fun K hK=>?_) AllReadyH.nil);go_simp;go_at_call 50
           refine(hac _ hS.below).mono ?_;rintro e wf ⟨rfl,bn⟩;try simp only[faV]
           try go_wp2
           have h4:=h4.call bn;have hS:=hS.call bn;refine hK.out _ _ hS (fun _=>?_);clear hK K bn;try simp only[Act.put,Qz,Qy,Qx]
           refine wpAnyH_ready (rs:=[11]) (by kernel_rfl) (by simp) (AllReadyH.cons rfl (fun K hK=>?_) AllReadyH.nil);go_simp;go_at_call 51
           refine(hbh _ hS.below).mono ?_;rintro e wf ⟨rfl,bn⟩;try simp only[faV]
           try go_wp2
           have h4:=h4.call bn;have hS:=hS.call bn;refine hK.out _ _ hS (fun _=>?_);clear hK K bn;try simp only[Act.put,Qz,Qy,Qx]
           refine wpAnyH_ready (rs:=[12]) (by kernel_rfl) (by simp) (AllReadyH.cons rfl (fun K hK=>?_) AllReadyH.nil);go_simp;go_at_call 48
           refine(hf3 _).mono ?_;rintro e wf ⟨rfl,bn⟩;try simp only[faV]
           try go_wp2
           have h4:=h4.call bn;have hS:=hS.call bn;refine hK.out _ _ hS (fun _=>?_);clear hK K bn;try simp only[Act.put,Qz,Qy,Qx]
           refine wpAnyH_ready (rs:=[13]) (by kernel_rfl) (by simp) (AllReadyH.cons rfl (fun K hK=>?_) AllReadyH.nil);go_simp;have hWb:Zi (World.alloc wf (.cells #[I J F1.1,I J F1.2.1,I J F1.2.2,I J F2.1,I J F2.2.1,I J F2.2.2,I J F3.1,I J F3.2.1,I J F3.2.2] 29)) wf.heap.size 29 ([F1,F2,F3].flatMap faL).toArray:=Zi.made _ _ _;have hnb:=Zh wf (.cells #[I J F1.1,I J F1.2.1,I J F1.2.2,I J F2.1,I J F2.2.1,I J F2.2.2,I J F3.1,I J F3.2.1,I J F3.2.2] 29);have hS:=hS.call hnb;have h4:=h4.call hnb;generalize World.alloc wf (.cells #[I J F1.1,I J F1.2.1,I J F1.2.2,I J F2.1,I J F2.2.1,I J F2.2.2,I J F3.1,I J F3.2.1,I J F3.2.2] 29)=wf at *;refine hK.out _ _ hS (fun _=>?_);clear hK K hnb;try simp only[Act.put,Qz,Qy,Qx]
           refine wpAnyH_ready (rs:=[14]) (by kernel_rfl) (by simp) (AllReadyH.cons rfl (fun K hK=>?_) AllReadyH.nil);go_simp;go_at_call 27
           refine(hof _ _ hWb).mono ?_;rintro e wf ⟨rfl,bn⟩;try simp only[faV]
           try go_wp2
           have h4:=h4.call bn;have hS:=hS.call bn;refine hK.out _ _ hS (fun _=>?_);clear hK K bn;try simp only[Act.put,Qz,Qy,Qx]
           refine wpAnyH_ready (rs:=[16]) (by kernel_rfl) (by simp) (AllReadyH.cons rfl (fun K hK=>?_) AllReadyH.nil);obtain⟨e0,e1,e2,z0,z1,z2⟩:=Zo (h4.get 3 rfl);go_simp;have h5:=(show Env w [_,_,_,_] [] [] _ from h4.put 3 rfl (Zir (h4.get 3 rfl) (I J x0) (I J x1) (I J x2)))
           refine hK.out _ _ (h5.less (bs:=[_,_,_]) (cs:=[_]) (ts:=[]) (us:=[])) (fun hS=>?_);clear hK K e0 e1 e2 z0 z1 z2 h4;try simp only[Act.put,Qz,Qy,Qx]
           refine wpAnyH_done (by kernel_rfl) ?_ _;have T:=Hh h5;clear h5;obtain⟨y0,y1,y2,_,_,_⟩:=Zo (T.out.get 3 rfl);have hz2:=HZ.out;by_cases h0:x0=0
           · rw[if_pos h0]at hz2
             have HZ2:=Hh hz2;clear hz2;subst h0;go_wp2
             go_roundw
             case rel=>exact⟨m+1,by go_num,by omega,T.out.less (bs:=[_]) (cs:=[_,_,_]) (ts:=[]) (us:=[]),HZ2⟩
             case measure=>simp[intOf];omega
           · rw[if_neg h0]at hz2
             subst hz2;have hb0:(x0 == 0)=false:=by simpa using h0
             clear h0;go_wp2_with(first
 |((with_reducible refine Zd 37 ?_);refine Zc 29 _ 29 _ [I J x0,I J x1,I J x2] (T.out.get 3 rfl) Yf Zj rfl rfl rfl ?_)
 |((with_reducible refine Zg 4 37 ?_);refine Za 29 _ _ 29 g1 _ ([I J x0,I J x1,I J x2]) (T.out.get 0 rfl) rfl Zj (by simp[Γ]) rfl rfl rfl rfl rfl ?_;intro wd p;have T:=Hh (T.out.put 0 rfl p);clear p))
             exact Ya 4 29 29 g1 ([I J x0,I J x1,I J x2]) rfl (T.out.get 0 rfl) Yf Zj rfl rfl ⟨rfl,T.out.below⟩
       · go_simp
         obtain⟨g4,hg4⟩:∃ g,g=wf.heap.size:=⟨_,rfl⟩
         have hbx:=hS.box 29 [I J 0,I J 0,I J 0];have hnb:=Zh wf (.cells ([I J 0,I J 0,I J 0]:List Value).toArray 29);rw[←hg4]at hbx ⊢;have hS:=hS.call hnb;skip
         generalize World.alloc wf (.cells ([I J 0,I J 0,I J 0]:List Value).toArray 29)=wf at *;have h4:=(show Env w [_,_,_,(g4,29,[I J 0,I J 0,I J 0])] [] [] wf from hbx)
         clear hbx hnb hg4;refine hK.out _ _ hS (fun _=>?_);clear hK K;try simp only[Act.put,Qz,Qy,Qx]
         refine wpAnyH_ready (rs:=[4]) (by kernel_rfl) (by simp) (AllReadyH.cons rfl (fun K hK=>?_) AllReadyH.nil);go_simp;go_at_call 48
         refine(hf1 _).mono ?_;rintro e wf ⟨rfl,bn⟩;try simp only[faV]
         try go_wp2
         have h4:=h4.call bn;have hS:=hS.call bn;refine hK.out _ _ hS (fun _=>?_);clear hK K bn;try simp only[Act.put,Qz,Qy,Qx]
         refine wpAnyH_ready (rs:=[8]) (by kernel_rfl) (by simp) (AllReadyH.cons rfl (fun K hK=>?_) AllReadyH.nil);go_simp;go_at_call 50
         refine(hac _ hS.below).mono ?_;rintro e wf ⟨rfl,bn⟩;try simp only[faV]
         try go_wp2
         have h4:=h4.call bn;have hS:=hS.call bn;refine hK.out _ _ hS (fun _=>?_);clear hK K bn;try simp only[Act.put,Qz,Qy,Qx]
         refine wpAnyH_ready (rs:=[11]) (by kernel_rfl) (by simp) (AllReadyH.cons rfl (fun K hK=>?_) AllReadyH.nil);go_simp;go_at_call 51
         refine(hbh _ hS.below).mono ?_;rintro e wf ⟨rfl,bn⟩;try simp only[faV]
         try go_wp2
         have h4:=h4.call bn;have hS:=hS.call bn;refine hK.out _ _ hS (fun _=>?_);clear hK K bn;try simp only[Act.put,Qz,Qy,Qx]
         refine wpAnyH_ready (rs:=[12]) (by kernel_rfl) (by simp) (AllReadyH.cons rfl (fun K hK=>?_) AllReadyH.nil);go_simp;go_at_call 48
         refine(hf3 _).mono ?_;rintro e wf ⟨rfl,bn⟩;try simp only[faV]
         try go_wp2
         have h4:=h4.call bn;have hS:=hS.call bn;refine hK.out _ _ hS (fun _=>?_);clear hK K bn;try simp only[Act.put,Qz,Qy,Qx]
         refine wpAnyH_ready (rs:=[13]) (by kernel_rfl) (by simp) (AllReadyH.cons rfl (fun K hK=>?_) AllReadyH.nil);go_simp;have hWb:Zi (World.alloc wf (.cells #[I J F1.1,I J F1.2.1,I J F1.2.2,I J F2.1,I J F2.2.1,I J F2.2.2,I J F3.1,I J F3.2.1,I J F3.2.2] 29)) wf.heap.size 29 ([F1,F2,F3].flatMap faL).toArray:=Zi.made _ _ _;have hnb:=Zh wf (.cells #[I J F1.1,I J F1.2.1,I J F1.2.2,I J F2.1,I J F2.2.1,I J F2.2.2,I J F3.1,I J F3.2.1,I J F3.2.2] 29);have hS:=hS.call hnb;have h4:=h4.call hnb;generalize World.alloc wf (.cells #[I J F1.1,I J F1.2.1,I J F1.2.2,I J F2.1,I J F2.2.1,I J F2.2.2,I J F3.1,I J F3.2.1,I J F3.2.2] 29)=wf at *;refine hK.out _ _ hS (fun _=>?_);clear hK K hnb;try simp only[Act.put,Qz,Qy,Qx]
         refine wpAnyH_ready (rs:=[14]) (by kernel_rfl) (by simp) (AllReadyH.cons rfl (fun K hK=>?_) AllReadyH.nil);go_simp;go_at_call 27
         refine(hof _ _ hWb).mono ?_;rintro e wf ⟨rfl,bn⟩;try simp only[faV]
         try go_wp2
         have h4:=h4.call bn;have hS:=hS.call bn;refine hK.out _ _ hS (fun _=>?_);clear hK K bn;try simp only[Act.put,Qz,Qy,Qx]
         refine wpAnyH_ready (rs:=[16]) (by kernel_rfl) (by simp) (AllReadyH.cons rfl (fun K hK=>?_) AllReadyH.nil);obtain⟨e0,e1,e2,z0,z1,z2⟩:=Zo (h4.get 3 rfl);go_simp;have h5:=(show Env w [_,_,_,_] [] [] _ from h4.put 3 rfl (Zir (h4.get 3 rfl) (I J x0) (I J x1) (I J x2)))
         refine hK.out _ _ (h5.less (bs:=[_,_,_]) (cs:=[_]) (ts:=[]) (us:=[])) (fun hS=>?_);clear hK K e0 e1 e2 z0 z1 z2 h4;try simp only[Act.put,Qz,Qy,Qx]
         refine wpAnyH_done (by kernel_rfl) ?_ _;have T:=Hh h5;clear h5;obtain⟨y0,y1,y2,_,_,_⟩:=Zo (T.out.get 3 rfl);have hz2:=HZ.out;by_cases h0:x0=0
         · rw[if_pos h0]at hz2
           have HZ2:=Hh hz2;clear hz2;subst h0;go_wp2
           go_roundw
           case rel=>exact⟨m+1,by go_num,by omega,T.out.less (bs:=[_]) (cs:=[_,_,_]) (ts:=[]) (us:=[]),HZ2⟩
           case measure=>simp[intOf];omega
         · rw[if_neg h0]at hz2
           subst hz2;have hb0:(x0 == 0)=false:=by simpa using h0
           clear h0;go_wp2_with(first
 |((with_reducible refine Zd 37 ?_);refine Zc 29 _ 29 _ [I J x0,I J x1,I J x2] (T.out.get 3 rfl) Yf Zj rfl rfl rfl ?_)
 | ((with_reducible refine Zg 4 37 ?_);refine Za 29 _ _ 29 g1 _ ([I J x0,I J x1,I J x2]) (T.out.get 0 rfl) rfl Zj (by simp[Γ]) rfl rfl rfl rfl rfl ?_;intro wd p;have T:=Hh (T.out.put 0 rfl p);clear p))
           exact Ya 4 29 29 g1 ([I J x0,I J x1,I J x2]) rfl (T.out.get 0 rfl) Yf Zj rfl rfl ⟨rfl,T.out.below⟩
     · go_simp
       obtain⟨g4,hg4⟩:∃ g,g=wf.heap.size:=⟨_,rfl⟩
       have hbx:=hS.box 29 [I J 0,I J 0,I J 0];have hnb:=Zh wf (.cells ([I J 0,I J 0,I J 0]:List Value).toArray 29);rw[←hg4]at hbx ⊢;have hS:=hS.call hnb;skip
       generalize World.alloc wf (.cells ([I J 0,I J 0,I J 0]:List Value).toArray 29)=wf at *;have h4:=(show Env w [_,_,_,(g4,29,[I J 0,I J 0,I J 0])] [] [] wf from hbx)
       clear hbx hnb hg4;refine hK.out _ _ hS (fun _=>?_);clear hK K;try simp only[Act.put,Qz,Qy,Qx]
       refine wpAnyH_ready (rs:=[3]) (by kernel_rfl) (by simp) (AllReadyH.cons rfl (fun K hK=>?_) AllReadyH.nil);go_simp;go_at_call 49
       refine(hbe _).mono ?_;rintro e wf ⟨rfl,bn⟩;try simp only[faV]
       try go_wp2
       have h4:=h4.call bn;have hS:=hS.call bn;refine hK.out _ _ hS (fun _=>?_);clear hK K bn;try simp only[Act.put,Qz,Qy,Qx]
       refine wpAnyH_ready (rs:=[4]) (by kernel_rfl) (by simp) (AllReadyH.cons rfl (fun K hK=>?_) AllReadyH.nil);go_simp;go_at_call 48
       refine(hf1 _).mono ?_;rintro e wf ⟨rfl,bn⟩;try simp only[faV]
       try go_wp2
       have h4:=h4.call bn;have hS:=hS.call bn;refine hK.out _ _ hS (fun _=>?_);clear hK K bn;try simp only[Act.put,Qz,Qy,Qx]
       refine wpAnyH_ready (rs:=[8]) (by kernel_rfl) (by simp) (AllReadyH.cons rfl (fun K hK=>?_) AllReadyH.nil);go_simp;go_at_call 50
       refine(hac _ hS.below).mono ?_;rintro e wf ⟨rfl,bn⟩;try simp only[faV]
       try go_wp2
       have h4:=h4.call bn;have hS:=hS.call bn;refine hK.out _ _ hS (fun _=>?_);clear hK K bn;try simp only[Act.put,Qz,Qy,Qx]
       refine wpAnyH_ready (rs:=[11]) (by kernel_rfl) (by simp) (AllReadyH.cons rfl (fun K hK=>?_) AllReadyH.nil);go_simp;go_at_call 51
       refine(hbh _ hS.below).mono ?_;rintro e wf ⟨rfl,bn⟩;try simp only[faV]
       try go_wp2
       have h4:=h4.call bn;have hS:=hS.call bn;refine hK.out _ _ hS (fun _=>?_);clear hK K bn;try simp only[Act.put,Qz,Qy,Qx]
       refine wpAnyH_ready (rs:=[12]) (by kernel_rfl) (by simp) (AllReadyH.cons rfl (fun K hK=>?_) AllReadyH.nil);go_simp;go_at_call 48
       refine(hf3 _).mono ?_;rintro e wf ⟨rfl,bn⟩;try simp only[faV]
       try go_wp2
       have h4:=h4.call bn;have hS:=hS.call bn;refine hK.out _ _ hS (fun _=>?_);clear hK K bn;try simp only[Act.put,Qz,Qy,Qx]
       refine wpAnyH_ready (rs:=[13]) (by kernel_rfl) (by simp) (AllReadyH.cons rfl (fun K hK=>?_) AllReadyH.nil);go_simp;have hWb:Zi (World.alloc wf (.cells #[I J F1.1,I J F1.2.1,I J F1.2.2,I J F2.1,I J F2.2.1,I J F2.2.2,I J F3.1,I J F3.2.1,I J F3.2.2] 29)) wf.heap.size 29 ([F1,F2,F3].flatMap faL).toArray:=Zi.made _ _ _;have hnb:=Zh wf (.cells #[I J F1.1,I J F1.2.1,I J F1.2.2,I J F2.1,I J F2.2.1,I J F2.2.2,I J F3.1,I J F3.2.1,I J F3.2.2] 29);have hS:=hS.call hnb;have h4:=h4.call hnb;generalize World.alloc wf (.cells #[I J F1.1,I J F1.2.1,I J F1.2.2,I J F2.1,I J F2.2.1,I J F2.2.2,I J F3.1,I J F3.2.1,I J F3.2.2] 29)=wf at *;refine hK.out _ _ hS (fun _=>?_);clear hK K hnb;try simp only[Act.put,Qz,Qy,Qx]
       refine wpAnyH_ready (rs:=[14]) (by kernel_rfl) (by simp) (AllReadyH.cons rfl (fun K hK=>?_) AllReadyH.nil);go_simp;go_at_call 27
       refine(hof _ _ hWb).mono ?_;rintro e wf ⟨rfl,bn⟩;try simp only[faV]
       try go_wp2
       have h4:=h4.call bn;have hS:=hS.call bn;refine hK.out _ _ hS (fun _=>?_);clear hK K bn;try simp only[Act.put,Qz,Qy,Qx]
       refine wpAnyH_ready (rs:=[16]) (by kernel_rfl) (by simp) (AllReadyH.cons rfl (fun K hK=>?_) AllReadyH.nil);obtain⟨e0,e1,e2,z0,z1,z2⟩:=Zo (h4.get 3 rfl);go_simp;have h5:=(show Env w [_,_,_,_] [] [] _ from h4.put 3 rfl (Zir (h4.get 3 rfl) (I J x0) (I J x1) (I J x2)))
       refine hK.out _ _ (h5.less (bs:=[_,_,_]) (cs:=[_]) (ts:=[]) (us:=[])) (fun hS=>?_);clear hK K e0 e1 e2 z0 z1 z2 h4;try simp only[Act.put,Qz,Qy,Qx]
       refine wpAnyH_done (by kernel_rfl) ?_ _;have T:=Hh h5;clear h5;obtain⟨y0,y1,y2,_,_,_⟩:=Zo (T.out.get 3 rfl);have hz2:=HZ.out;by_cases h0:x0=0
       · rw[if_pos h0]at hz2
         have HZ2:=Hh hz2;clear hz2;subst h0;go_wp2
         go_roundw
         case rel=>exact⟨m+1,by go_num,by omega,T.out.less (bs:=[_]) (cs:=[_,_,_]) (ts:=[]) (us:=[]),HZ2⟩
         case measure=>simp[intOf];omega
       · rw[if_neg h0]at hz2
         subst hz2;have hb0:(x0 == 0)=false:=by simpa using h0
         clear h0;go_wp2_with(first
 |((with_reducible refine Zd 37 ?_);refine Zc 29 _ 29 _ [I J x0,I J x1,I J x2] (T.out.get 3 rfl) Yf Zj rfl rfl rfl ?_)
 | ((with_reducible refine Zg 4 37 ?_);refine Za 29 _ _ 29 g1 _ ([I J x0,I J x1,I J x2]) (T.out.get 0 rfl) rfl Zj (by simp[Γ]) rfl rfl rfl rfl rfl ?_;intro wd p;have T:=Hh (T.out.put 0 rfl p);clear p))
         exact Ya 4 29 29 g1 ([I J x0,I J x1,I J x2]) rfl (T.out.get 0 rfl) Yf Zj rfl rfl ⟨rfl,T.out.below⟩
   · have hz2:=hz.out
     rw[List.drop_of_length_le (by have:=HN.out;omega)]at hz2;have hz2:R=(0,0,0):=hz2;subst hz2;clear hz;go_wp2_with(first
 | ((with_reducible refine Zg 4 39 ?_);refine Za 29 _ _ 29 g1 _ ([I J 0,I J 0,I J 0]) (T.out.get 0 rfl) rfl Zj (by simp[Γ]) rfl rfl rfl rfl rfl ?_;intro wd p;have T:=Hh (T.out.put 0 rfl p);clear p))
     exact Ya 4 29 29 g1 ([I J 0,I J 0,I J 0]) rfl (T.out.get 0 rfl) Yf Zj rfl rfl ⟨rfl,T.out.below⟩
end Go.Proofs.YtbdecchpleiepaaGreat
