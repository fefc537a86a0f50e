/- Parts of the proof. No conditions but those that each names. -/
import Derived.Laws.Concat
import Derived.Laws.Strings
import Derived.Test.YtbdecchpleiepaaGreatQL22
set_option maxRecDepth 20000
set_option maxHeartbeats 99000000
set_option linter.unusedVariables false
set_option linter.unusedSimpArgs false
namespace Go.Proofs.YtbdecchpleiepaaGreat
open Go.Value renaming int→I,slice→Λ,pointer→Ω
open Go.IntKind renaming i64→J
open _root_.Go.Proofs.Tryz renaming prog→Φ
open And renaming intro→ζ
open Go.Ending renaming returned→η
open Go Go.RowKit
theorem lrow_se:(Tryz.prog.underlying 76).map TypeDesc.isRow=some true:=by kernel_rfl
theorem lsize_se:(Tryz.prog.info? 76).map (·.size)=some 6:=by kernel_rfl
theorem Jr:(Tryz.prog.underlying 89).map TypeDesc.isRow=some true:=by kernel_rfl
theorem Wq:(Tryz.prog.info? 89).map (·.size)=some 3:=by kernel_rfl
theorem lund_exs:Tryz.prog.underlying 79=some (.slice 81):=by kernel_rfl
theorem ex_more{N:Nat→Prop}{w:World}{x:Ex}{vs:List Value}(h:Zs N w x.ds vs):∃ sv C kc,sv.length=6∧Zs N w (exSel x).ds sv ∧
  vs=[I J (exKind x),I J (match x with | .leaf _ n _ _ _ _=>n | .bin op _ _=>op)]++sv++[I J (exSd x),I J (exTk x),I J (exTl x),.slice C (Zco x).length kc]:=by
 cases x with
 |leaf k n s sd tk tl=>
  obtain⟨_,rfl,_,rfl,h⟩:=h;obtain⟨sv,_,rfl,hs,h⟩:=Zs.split (x:=s.ds) h;obtain⟨_,rfl,_,rfl,_,rfl,C,kc,xs,_,rfl,_,hw,hd,rfl⟩:=h;exact⟨sv,C,kc,by rw[hs.len,Se.ds_len],hs,rfl⟩
 |bin op l r=>
  obtain⟨_,rfl,_,rfl,h⟩:=h;obtain⟨sv,_,rfl,hs,h⟩:=Zs.split (x:=zSe.ds) h;obtain⟨_,rfl,_,rfl,_,rfl,C,kc,xs,_,rfl,_,hw,hd,rfl⟩:=h;exact⟨sv,C,kc,by rw[hs.len,Se.ds_len],hs,rfl⟩
def RXOK(c:Sc)(x:Ex):Prop:=∀(w:World)(N:Nat→Prop)(vs:List Value),Zs N w x.ds vs →
 Calls Φ 74 #[.agg (inL c).toArray,.agg vs.toArray] w fun e w'=>e=η (I J (Zdq c x))∧Below w.heap.size w w'
theorem rKids_drop(c:Sc)(K:List Ex)(m:Nat)(h:m<K.length):Zka c (K.drop m)=orE (Zdq c (K[m]'h)) (Zka c (K.drop (m+1))):=by
 rw[List.drop_eq_getElem_cons h];rfl
theorem rExpr_walk(c:Sc)(x:Ex)(IH:∀ y ∈ Zco x,RXOK c y):RXOK c x:=by
 intro w N vs h;obtain⟨_,C,kc,xs,c11,hw,hd⟩:=Zme h;obtain⟨sv,C2,kc2,hsl,hsv,hsp⟩:=ex_more h;have hlen:vs.length=12:=by rw[h.len,Ex.ds_len]
 have hse:=fun y (hb:Below w.heap.size w y)=>rSel c (exSel x) y N sv (hsv.below hb)
 have hsi:=fun y=>rSide c (exSd x) y
 have hla:=fun y=>rLane (exTk x) (exTl x) y
 have hv:=rExpr_parts c x;rw[lSide_rs,lTo_rl]at hv;have c8:vs[8]?=some (I J (exSd x)):=by rw[hsp];simp[List.getElem?_append,hsl]
 have c9:vs[9]?=some (I J (exTk x)):=by rw[hsp];simp[List.getElem?_append,hsl]
 have c10:vs[10]?=some (I J (exTl x)):=by rw[hsp];simp[List.getElem?_append,hsl]
 obtain⟨V,hV⟩:∃ V,V=Zdq c x:=⟨_,rfl⟩
 rw[←hV]at hv ⊢;clear hV hsv;generalize Jy c (exSel x)=a at *;generalize rsB c (exSd x)=q at *;generalize rlB (exTk x) (exTl x)=r at *;generalize exSd x=sd at *;generalize exTk x=tk at *;generalize exTl x=tl at *;have hkn2:(Zco x).length≤2:=by cases x<;>simp[Zco]
 generalize Zco x=K at *;obtain⟨kn,hkn⟩:∃ kn,kn=K.length:=⟨_,rfl⟩
 rw[←hkn]at c11 hkn2 hsp;have HK:=Hh hkn;have HW:=Hh (ζ hw hd);have HI:=Hh IH;have HSP:=Hh hsp;have HC:=Hh (ζ c8 (ζ c9 (ζ c10 c11)));have l2:(kn:Int)≤2:=by omega
 clear hkn hw hd IH c8 c9 c10 c11 h hsp;obtain⟨pl,whn,ea⟩:=c;dsimp only[inL]at *;have T:=Hh (Env.start w);go_enter Tryz.func74,Tryz.ntmps74
 have hc:∃ u,V=orE u (Zka ⟨pl,whn,ea⟩ K)∧((a=0∧q=false∧r=false∧u=0)∨(a=0∧q=false∧r=true∧u=20)∨(a=0∧q=true∧u=24)∨((a == 0)=false∧a=u)):=by
  by_cases ha:a=0
  · subst ha
    cases q<;>cases r
    ·exact⟨0,hv,.inl ⟨rfl,rfl,rfl,rfl⟩⟩
    ·exact⟨20,hv,.inr (.inl ⟨rfl,rfl,rfl,rfl⟩)⟩
    ·exact⟨24,hv,.inr (.inr (.inl ⟨rfl,rfl,rfl⟩))⟩
    ·exact⟨24,hv,.inr (.inr (.inl ⟨rfl,rfl,rfl⟩))⟩
  · refine⟨a,?_,.inr (.inr (.inr ⟨by simpa using ha,rfl⟩))⟩
    rw[hv];unfold orE;simp[ha]
 clear hv;obtain⟨u,hv,hc⟩:=hc;rcases hc with⟨rfl,rfl,rfl,rfl⟩ | ⟨rfl,rfl,rfl,rfl⟩ | ⟨rfl,rfl,rfl⟩ | ⟨ha,rfl⟩
 all_goals
  have HV0:=Hh hv;clear hv;go_wp2_with(first
 |((with_reducible refine Zd 2 ?_);refine Zf T.out 89 _ ([.bool pl,I J whn,.bool ea]) rfl rfl rfl ?_;intro wa g0 tn;have T:=Hh tn;clear tn)
 |((with_reducible refine Zd 3 ?_);refine Zf T.out 81 _ vs rfl rfl rfl ?_;intro wb g1 tn;have T:=Hh tn;clear tn;obtain⟨fc0,fc1,fc2,_,_,_⟩:=Zo (T.out.get 0 rfl);have fd8:=(T.out.get 1 rfl).nth 8 HC.out.1;have fd9:=(T.out.get 1 rfl).nth 9 HC.out.2.1;have fd10:=(T.out.get 1 rfl).nth 10 HC.out.2.2.1;have fd11:=(T.out.get 1 rfl).nth 11 HC.out.2.2.2)
 |((with_reducible refine Zd 9 ?_);refine Zw 76 _ g1 2 sv ((T.out.get 1 rfl).sub HSP.out rfl) lrow_se (by rw[hsl];exact lsize_se) rfl rfl rfl ?_)
 |(go_at_call 71;refine(hse _ T.out.below).mono ?_;rintro e we ⟨rfl,bn⟩;have T:=Hh (T.out.call bn);clear bn;obtain⟨fc0,fc1,fc2,_,_,_⟩:=Zo (T.out.get 0 rfl);have fd8:=(T.out.get 1 rfl).nth 8 HC.out.1;have fd9:=(T.out.get 1 rfl).nth 9 HC.out.2.1;have fd10:=(T.out.get 1 rfl).nth 10 HC.out.2.2.1;have fd11:=(T.out.get 1 rfl).nth 11 HC.out.2.2.2)
 |(go_at_call 72;refine(hsi _).mono ?_;rintro e we ⟨rfl,bn⟩;have T:=Hh (T.out.call bn);clear bn;obtain⟨fc0,fc1,fc2,_,_,_⟩:=Zo (T.out.get 0 rfl);have fd8:=(T.out.get 1 rfl).nth 8 HC.out.1;have fd9:=(T.out.get 1 rfl).nth 9 HC.out.2.1;have fd10:=(T.out.get 1 rfl).nth 10 HC.out.2.2.1;have fd11:=(T.out.get 1 rfl).nth 11 HC.out.2.2.2)
 |(go_at_call 73;refine(hla _).mono ?_;rintro e we ⟨rfl,bn⟩;have T:=Hh (T.out.call bn);clear bn;obtain⟨fc0,fc1,fc2,_,_,_⟩:=Zo (T.out.get 0 rfl);have fd8:=(T.out.get 1 rfl).nth 8 HC.out.1;have fd9:=(T.out.get 1 rfl).nth 9 HC.out.2.1;have fd10:=(T.out.get 1 rfl).nth 10 HC.out.2.2.1;have fd11:=(T.out.get 1 rfl).nth 11 HC.out.2.2.2))
  go_loopw [5,6] (fun s i wy=>∃(m:Nat)(v:Int),i=I J m∧m≤kn∧s=I J v∧Env w [(g0,89,[.bool pl,I J whn,.bool ea]),(g1,81,vs)] [] [] wy∧Hid (V=orE v (Zka ⟨pl,whn,ea⟩ (K.drop m)))) (fun _ i _=>kn - (intOf i).toNat)
  case atStart=>exact⟨0,_,by go_num,Nat.zero_le _,rfl,T.out,HV0⟩
  case round=>
    obtain⟨m,v,rfl,hm,rfl,hT,hz⟩:=hrel;have T:=Hh hT;clear hT;obtain⟨fc0,fc1,fc2,_,_,_⟩:=Zo (T.out.get 0 rfl);have fd11:=(T.out.get 1 rfl).nth 11 HC.out.2.2.2;by_cases hlt:m<kn
    ·by_cases h0:v=0
     ·subst h0
      have hk1:m<K.length:=by rw[←HK.out];exact hlt
      obtain⟨pre,ys,post,hxs,hp,hy⟩:=lxs_at HW.out.2 m hk1;have hyl:ys.length=12:=by rw[hy.len,Ex.ds_len]
      obtain⟨g,hCe,hg,hcc⟩:=HW.out.1.reads (by rw[hxs];simp;omega);subst hCe;have hx:=HI.out (K[m]'hk1) (List.getElem_mem hk1);have hR:w.rangeAt g (m*12) ys:=Ut (by rw[hxs]at hcc;exact hcc) hp;have hz2:=hz.out;rw[rKids_drop ⟨pl,whn,ea⟩ K m hk1]at hz2;have hz3:V=orE (Zdq ⟨pl,whn,ea⟩ (K[m]'hk1)) (Zka ⟨pl,whn,ea⟩ (K.drop (m+1))):=hz2;unfold RXOK at hx;generalize K[m]=x at *;have HR:Hid (∀ y,Below w.heap.size w y→y.rangeAt g (m*12) ys):=Hh fun y hb j v hv=>(World.cell?_of_block (a:=⟨g,m*12+j,none⟩) (hb.block g hg)).trans (hR j v hv)
      have HY:=Hh hy;have HZ:=Hh hz3;clear hxs hp hcc hR hk1 hy hz hz2 hz3;have lk:(m:Int)<(kn:Int):=by omega
      generalize Zdq ⟨pl,whn,ea⟩ x=u at *;go_upto_region 9 with(fail)
      refine wp_region_held_drew (S:=fun x=>Env w [(g0,89,[.bool pl,I J whn,.bool ea]),(g1,81,vs)] [] [] x) (by kernel_rfl) T.out.drew (fun hS=>?_);refine Yv (i:=0) (v:=.agg ([.bool pl,I J whn,.bool ea]:List Value).toArray) rfl rfl (by kernel_rfl) (by kernel_rfl) (by kernel_rfl) (fun _ _ _ h=>h) (Ui rfl rfl rfl (fun y hy=>(Env.get hy 0 rfl).range0) Jr Wq) hS ?_;try simp only[Qy,Qx]
      refine Yv (i:=1) (v:=Ω (some ⟨g1,11,none⟩)) rfl rfl (by kernel_rfl) (by kernel_rfl) (by kernel_rfl) (fun _ _ _ h=>h) (Or.inl ⟨by rfl,fun y hy=>by go_simp⟩) hS ?_;try simp only[Qy,Qx]
      refine Yv (i:=2) (v:=Λ (some ⟨g,0,none⟩) kn kc) rfl rfl (by kernel_rfl) (by kernel_rfl) (by kernel_rfl) (fun _ _ _ h=>h) (Or.inl ⟨by rfl,fun y hy=>by have c0:=(Env.get hy 1 rfl).nth 11 HC.out.2.2.2;go_simp⟩) hS ?_;try simp only[Qy,Qx]
      refine Yv (i:=3) (v:=I J (m:Int)) rfl rfl (by kernel_rfl) (by kernel_rfl) (by kernel_rfl) (fun _ _ _ h=>h) (Zds rfl rfl rfl) hS ?_;try simp only[Qy,Qx]
      refine Yv (i:=4) (v:=Ω (some ⟨g,m*12,none⟩)) rfl rfl (by kernel_rfl) (by kernel_rfl) (by kernel_rfl) (fun _ _ _ h=>h) (yield_index rfl rfl rfl rfl hlt lund_exs Yi) hS ?_;try simp only[Qy,Qx]
      refine Yv (i:=5) (v:=.agg ys.toArray) rfl rfl (by kernel_rfl) (by kernel_rfl) (by kernel_rfl) (fun _ _ _ h=>h) (Ui rfl rfl rfl (fun y hy=>HR.out y (Env.below hy)) Yy (by rw[hyl];exact Yi)) hS ?_;try simp only[Qy,Qx]
      refine wpAnyH_ready (rs:=[6]) (by kernel_rfl) (by simp) (AllReadyH.cons rfl (fun K hK=>?_) AllReadyH.nil);go_simp;go_at_call 74
      refine(hx _ _ _ (HY.out.below hS.below)).mono ?_;rintro e wf ⟨rfl,bn⟩;try go_wp2
      have hS:=hS.call bn;refine hK.out _ _ hS (fun _=>?_);clear hK K bn;try simp only[Act.put,Qz,Qy,Qx]
      refine wpAnyH_ready (rs:=[7]) (by kernel_rfl) (by simp) (AllReadyH.cons rfl (fun K hK=>?_) AllReadyH.nil);go_simp;refine hK.out _ _ hS (fun _=>?_);clear hK K;try simp only[Act.put,Qz,Qy,Qx]
      refine wpAnyH_done (by kernel_rfl) ?_ _;have T:=Hh hS;clear hS;go_wp2
      go_roundw
      case rel=>exact⟨m+1,u,by go_num,by omega,rfl,T.out,HZ⟩
      case measure=>simp[intOf];omega
     ·have hb0:(v == 0)=false:=by simpa using h0
      have hf:V=v:=by rw[hz.out];unfold orE;rw[if_neg h0]
      subst hf;clear hz h0;have lk:(m:Int)<(kn:Int):=by omega
      go_wp2
      go_ret;exact⟨rfl,T.out.below⟩
    ·have hf:V=v:=by rw[hz.out,List.drop_of_length_le (by have:=HK.out;omega)];exact Wb _
     subst hf;clear hz;have lk:¬(m:Int)<(kn:Int):=by omega
     go_wp2
     go_ret;exact⟨rfl,T.out.below⟩
theorem Zgk(c:Sc):∀ x:Ex,RXOK c x
 |.leaf k n s sd tk tl=>rExpr_walk c _ (fun y hy=>by cases hy)
 |.bin op l r=>by
  have hl:=Zgk c l;have hr:=Zgk c r;refine rExpr_walk c _ (fun y hy=>?_);rcases List.mem_cons.1 hy with rfl | hy
  ·exact hl
  ·cases List.mem_singleton.1 hy;exact hr
open Go.ChangeShapes Go.WideShapes Go.ChangeAt Go.RowKit
def Ext(x y:World):Prop:=Below x.heap.size x y
theorem Ext.refl(x:World):Ext x x:=Below.refl _ _
theorem Ext.trans{x y z:World}(h:Ext x y)(g:Ext y z):Ext x z:=Below.trans h (Below.mono g (Below.size h))
def Zgz(S:World→Prop):Prop:=∀ x y,S x→Ext x y→S y
theorem Zgz.and{S T:World→Prop}(h:Zgz S)(g:Zgz T):Zgz fun x=>S x∧T x:=fun x y a e=>⟨h x y a.1 e,g x y a.2 e⟩
section
variable {P:Program} {ops:Array Oper} {Q:Exit→Act→World→Prop} {md:Region.Mode}
def AB(P:Program)(md:Region.Mode)(ops:Array Oper)(Q:Exit→Act→World→Prop):Nat→(World→Prop)→Array Bool→Act→Prop
 |0,S,listed,a=>Region.ready md ops listed=[]∧∀ w,S w→Q .normal a w
 |n+1,S,listed,a=>(Region.ready md ops listed=[]→∀ w,S w→Q .normal a w) ∧
  ∀ i ∈ Region.ready md ops listed,∀ w,S w→wpOp P ops Q i (fun a' w'=>∃ S',S' w'∧Zgz S'∧(∀ x,S' x→S x)∧AB P md ops Q n S' (listed.setIfInBounds i true) a') a w
theorem AB.any:∀(n:Nat)(S:World→Prop)(listed:Array Bool)(a:Act)(w:World),AB P md ops Q n S listed a→S w→wpAny P md ops Q n listed a w
 |0,_,_,_,w,h,hS=>⟨h.1,h.2 w hS⟩
 |n+1,_,_,_,w,h,hS=>⟨fun e=>h.1 e w hS,fun i hi=>wpOp_mono (fun a' w' ⟨S',s,_,_,h'⟩=>AB.any n S' _ a' w' h' s) (h.2 i hi w hS)⟩
def Wx(P:Program)(ops:Array Oper)(S:World→Prop)(o:Oper)(v:Value)(a:Act):Prop:=
 (Region.wanted o (yielded ops a.tmps)=true∧∀ w,S w→(execOp a.eval o).run P w=.ok (.value v) w∨∃ f args,(execOp a.eval o).run P w=.ok (.enter f args) w∧Calls P f args w fun e w'=>e=η v∧Ext w w') ∨
 (Region.wanted o (yielded ops a.tmps)=false∧v=undef)
theorem YieldsIf.gives{S:World→Prop}{o:Oper}{v:Value}{a:Act}(h:YieldsIf P ops S o v a):Wx P ops S o v a:=h.imp (fun⟨hw,hv⟩=>⟨hw,fun w s=>.inl (hv w s)⟩) id
theorem Wx.mono{S T:World→Prop}{o:Oper}{v:Value}{a:Act}(h:Wx P ops S o v a)(hs:∀ x,T x→S x):Wx P ops T o v a:=h.imp (fun⟨hw,hv⟩=>⟨hw,fun w s=>hv w (hs w s)⟩) id
theorem Wx.same{S:World→Prop}{o:Oper}{v:Value}{a b:Act}(h:Wx P ops S o v a)(he:execOp b.eval o=execOp a.eval o)(hw:Region.wanted o (yielded ops b.tmps)=Region.wanted o (yielded ops a.tmps)):Wx P ops S o v b:=by
 unfold Wx at *;rw[he,hw];exact h
theorem Wx.op{S:World→Prop}{i:Nat}{o:Oper}{v:Value}{a:Act}(hi:ops[i]?=some o)(h:Wx P ops S o v a){K:Act→World→Prop}{w:World}(hS:S w)(hK:∀ w',Ext w w'→K (a.put o.dst v) w'):wpOp P ops Q i K a w:=by
 unfold wpOp;rw[hi];rcases h with⟨hw,hv⟩ | ⟨hw,rfl⟩
 ·simp only[hw,if_true]
  refine .inl ?_;unfold Oper.wp;rcases hv w hS with e | ⟨f,args,e,hc⟩
  ·rw[e];exact hK w (Ext.refl w)
  ·rw[e]
   refine Calls.mono hc fun e' w' he=>?_
   obtain⟨rfl,hx⟩:=he;exact hK w' hx
 ·simp only[hw,Bool.false_eq_true,if_false];exact hK w (Ext.refl w)
theorem Wx.past{S:World→Prop}{j:Nat}{oi oj:Oper}{v:Value}(hj:ops[j]?=some oj)(hap:oi.apart ops oj=true)(hsi:∀ cs b,oi.op≠.select cs b)(hsj:∀ cs b,oj.op≠.select cs b)
  (hQ:∀ c a w,Q (.panic c) (a.put oi.dst v) w→Q (.panic c) a w){K:Act→World→Prop}{a:Act}{w:World}(hy:Wx P ops S oi v a)(h:wpOp P ops Q j K (a.put oi.dst v) w) :
  wpOp P ops Q j (fun a' w'=>Wx P ops S oi v a'∧K (a'.put oi.dst v) w') a w:=by
 obtain⟨h1,h2,h3⟩:=Oper.apart_spec hap;have keep:∀(b:Act),Wx P ops S oi v b→∀ u,Wx P ops S oi v (b.put oj.dst u):=fun b hb u=>hb.same (execOp_put oi hsi b oj.dst u h3) (wanted_put oi b oj.dst u h3)
 have swap:∀(b:Act) u,(b.put oi.dst v).put oj.dst u=(b.put oj.dst u).put oi.dst v:=fun b u=>Act.put_comm b v u h2
 have hx:=execOp_put oj hsj a oi.dst v h1;unfold wpOp at *;simp only[hj]at *;rw[wanted_put oj a oi.dst v h1]at h;by_cases hw:Region.wanted oj (yielded ops a.tmps)=true
 ·simp only[hw,if_true]at h ⊢
  rcases h with h | ⟨ha,hl⟩
  ·refine .inl ?_
   unfold Oper.wp at *;rw[hx]at h;revert h
   cases(execOp a.eval oj).run P w with
   |ok n x=>
    cases n with
    |value u=>intro h;exact⟨keep a hy u,by rw[←swap];exact h⟩
    |skip=>intro h;exact⟨keep a hy _,by rw[←swap];exact h⟩
    |defer d=>
     intro h;refine⟨keep _ (hy.same (b:= { a with defers:=d::a.defers }) rfl rfl) _,?_⟩;rw[←swap,←Act.put_defers];exact h
    |enter f args=>
     intro h;refine Calls.mono h fun e y he=>?_
     cases e with
     |returned u=>exact⟨keep a hy u,by rw[←swap];exact he⟩
     |panicked c=>exact hQ _ _ _ he
     |outgrown=>exact he
    |row r args=>intro h;exact Rows.mono h fun u y he=>⟨keep a hy u,by rw[←swap];exact he⟩
    |_=>intro h;exact h
   |halt x y=>
    cases x with
    |panic u=>intro h;exact hQ _ _ _ h
    |_=>intro h;exact h
  ·exact .inr ⟨by unfold Oper.asks at *;rw[hx]at ha;exact ha,hl⟩
 ·have hw:Region.wanted oj (yielded ops a.tmps)=false:=by simpa using hw
  simp only[hw,Bool.false_eq_true,if_false]at h ⊢;exact⟨keep a hy _,by rw[←swap];exact h⟩
theorem AB.first{i:Nat}{oi:Oper}{v:Value}(hi:ops[i]?=some oi)(hsel:∀(j:Nat)(o:Oper) cs b,ops[j]?=some o→o.op≠.select cs b)(hQ:∀ c a w,Q (.panic c) (a.put oi.dst v) w→Q (.panic c) a w) :
  ∀(n:Nat)(S:World→Prop)(listed:Array Bool)(a:Act),(∀ j oj,ops[j]?=some oj→j≠i→listed.getD j true=false→(∀ e ∈ oj.after,Region.binds md e=true→e.on≠i)→oi.apart ops oj=true) →
   i ∈ Region.ready md ops listed→Zgz S→Wx P ops S oi v a→AB P md ops Q n S (listed.setIfInBounds i true) (a.put oi.dst v)→AB P md ops Q (n+1) S listed a:=by
 intro n;induction n with
 |zero=>
  intro S listed a _ hr hst hy H;refine⟨fun e=>(by rw[e]at hr;cases hr),fun j hj w hS=>?_⟩;by_cases hji:j=i
  ·subst hji;exact hy.op hi hS fun w' e=>⟨S,hst _ _ hS e,hst,fun _ h=>h,H⟩
  ·have:=ready_mono hj hji
   rw[H.1]at this;cases this
 |succ n ih=>
  intro S listed a hfree hr hst hy H;refine⟨fun e=>(by rw[e]at hr;cases hr),fun j hj w hS=>?_⟩;by_cases hji:j=i
  ·subst hji;exact hy.op hi hS fun w' e=>⟨S,hst _ _ hS e,hst,fun _ h=>h,H⟩
  ·have h1:=H.2 j (ready_mono hj hji) w hS
   obtain⟨hjun,oj,hoj,hall⟩:=mem_ready.1 hj
   have hnot:∀ e ∈ oj.after,Region.binds md e=true→e.on≠i:=fun e he hb heq=>by
    have h1:=hall e he hb;have h0:=(mem_ready.1 hr).1;rw[heq]at h1;rcases Nat.lt_or_ge i listed.size with h' | h'
    ·simp[h']at h0 h1;rw[h0]at h1;cases h1
    ·simp[Array.getElem?_eq_none h']at h1
   have h2:=Wx.past hoj (hfree j oj hoj hji hjun hnot) (fun cs b=>hsel i oi cs b hi) (fun cs b=>hsel j oj cs b hoj) hQ hy h1;refine wpOp_mono (fun a' w' h3=>?_) h2;obtain⟨hg,S',hs',st',sub,hab⟩:=h3;refine⟨S',hs',st',sub,ih S' (listed.setIfInBounds j true) a' (fun k ok hk hki hun hno=>hfree k ok hk hki ?_ hno) (ready_mono hr (Ne.symm hji)) st' (hg.mono sub) ?_⟩
   ·by_cases hjk:j=k
    ·subst hjk;exact hjun
    ·rw[getD_set_ne true hjk]at hun;exact hun
   ·rw[Array.setIfInBounds_comm _ _ hji]
    exact hab
theorem AB.take{i k n:Nat}{oi:Oper}{v:Value}{S:World→Prop}{listed:Array Bool}{l:List Value}{d:List Deferred}(hi:ops[i]?=some oi)(hd:oi.dst=some k)
  (hs:Region.noSelect ops=true)(hf:Region.free md ops listed i=true)(hr:(Region.ready md ops listed).contains i=true)
  (hQ:∀ c a w,Q (.panic c) (a.put oi.dst v) w→Q (.panic c) a w)(hst:Zgz S)(hy:Wx P ops S oi v ⟨l.toArray,d⟩)
  (h:AB P md ops Q n S (listed.setIfInBounds i true) ⟨(l.set k v).toArray,d⟩):AB P md ops Q (n+1) S listed ⟨l.toArray,d⟩:=by
 refine AB.first hi (Region.noSelect_spec hs) hQ n S listed _ (Region.free_spec hi hf) (by simpa using hr) hst hy ?_;rw[hd];simpa[Act.put]using h
theorem AB.tk{k n:Nat}{oi:Oper}(i:Nat)(v:Value){S:World→Prop}{listed:Array Bool}{l:List Value}{d:List Deferred}(hi:ops[i]?=some oi)(hd:oi.dst=some k)
  (hb:(Region.noSelect ops&&Region.free md ops listed i&&(Region.ready md ops listed).contains i)=true)
  (hQ:∀ c a w,Q (.panic c) (a.put oi.dst v) w→Q (.panic c) a w)(hst:Zgz S)(hy:Wx P ops S oi v ⟨l.toArray,d⟩)
  (h:AB P md ops Q n S (listed.setIfInBounds i true) ⟨(l.set k v).toArray,d⟩):AB P md ops Q (n+1) S listed ⟨l.toArray,d⟩:=by
 simp only[Bool.and_eq_true] at hb
 exact AB.take hi hd hb.1.1 hb.1.2 hb.2 hQ hst hy h
def AStep(P:Program)(md:Region.Mode)(ops:Array Oper)(Q:Exit→Act→World→Prop)(n:Nat)(S:World→Prop)(listed:Array Bool)(a:Act)(i:Nat):Prop:=
 ∀ w,S w→wpOp P ops Q i (fun a' w'=>∃ S',S' w'∧Zgz S'∧(∀ x,S' x→S x)∧AB P md ops Q n S' (listed.setIfInBounds i true) a') a w
theorem AStep.some{ι : Type}{i k n f:Nat}{args:Array Value}{oi:Oper}{val : ι → Value}{φ : ι → World→Prop}{S:World→Prop}{listed:Array Bool}{l:List Value}{d:List Deferred}(hi:ops[i]?=some oi)(hd:oi.dst=some k)
  (hg:oi.guard=none)(hst:Zgz S)(he:∀ w,S w→(execOp (⟨l.toArray,d⟩:Act).eval oi).run P w=.ok (.enter f args) w)
  (hc:∀ w,S w→Calls P f args w fun e w'=>∃ g,e=η (val g) ∧ φ g w'∧Ext w w')(hφ : ∀ g,Zgz (φ g))
  (h:∀ g,AB P md ops Q n (fun x=>S x ∧ φ g x) (listed.setIfInBounds i true) ⟨(l.set k (val g)).toArray,d⟩):AStep P md ops Q n S listed ⟨l.toArray,d⟩ i:=by
 intro w hS;unfold wpOp;rw[hi];have hw:Region.wanted oi (yielded ops (⟨l.toArray,d⟩:Act).tmps)=true:=by unfold Region.wanted;rw[hg]
 simp only[hw,if_true];refine .inl ?_;unfold Oper.wp;rw[he w hS];refine Calls.mono (hc w hS) fun e w' hh=>?_
 obtain⟨g,rfl,hp,hx⟩:=hh;refine⟨fun x=>S x ∧ φ g x,⟨hst _ _ hS hx,hp⟩,hst.and (hφ g),fun _ h=>h.1,?_⟩;have:=h g;rw[hd];simpa[Act.put]using this
theorem AB.one{i n:Nat}{S:World→Prop}{listed:Array Bool}{a:Act}(hr:Region.ready md ops listed=[i])(h:AStep P md ops Q n S listed a i):AB P md ops Q (n+1) S listed a:=
 ⟨fun e=>(by rw[hr]at e;cases e),fun j hj=>by
   rw[hr,List.mem_singleton]at hj;subst hj;exact h⟩
theorem AB.done{n:Nat}{S:World→Prop}{listed:Array Bool}{a:Act}(hr:Region.ready md ops listed=[])(h:∀ w,S w→Q .normal a w):AB P md ops Q n S listed a:=by
 cases n with
 |zero=>exact⟨hr,h⟩
 |succ n=>exact⟨fun _=>h,by rw[hr];simp⟩
theorem Wx.call{S:World→Prop}{o:Oper}{a:Act}{f:Nat}{args:Array Value}{v:Value}(g:o.guard=none)(he:∀ w,(execOp a.eval o).run P w=.ok (.enter f args) w)(hc:∀ w,S w→Calls P f args w fun e w'=>e=η v∧Below w.heap.size w w'):Wx P ops S o v a:=
 .inl ⟨by unfold Region.wanted;rw[g],fun w hS=>.inr ⟨f,args,he w,hc w hS⟩⟩
theorem Uu{S:World→Prop}{o:Oper}{a:Act}{x:Operand}{v:Value}(g:o.guard=none)(ho:o.op=.move x)(e:a.eval x=v):Wx P ops S o v a:=YieldsIf.gives (Zds g ho e)
theorem Yg{S:World→Prop}{o:Oper}{a:Act}{v:Value}(g:o.guard=none)(h:∀ w,S w→(execOp a.eval o).run P w=.ok (.value v) w):Wx P ops S o v a:=.inl ⟨by unfold Region.wanted;rw[g],fun w s=>.inl (h w s)⟩
theorem Wx.callG{S:World→Prop}{o:Oper}{a:Act}{f:Nat}{args:Array Value}{v:Value}(g:Region.wanted o (yielded ops a.tmps)=true)(he:∀ w,(execOp a.eval o).run P w=.ok (.enter f args) w)(hc:∀ w,S w→Calls P f args w fun e w'=>e=η v∧Below w.heap.size w w'):Wx P ops S o v a:=
 .inl ⟨g,fun w hS=>.inr ⟨f,args,he w,hc w hS⟩⟩
theorem Wv{S:World→Prop}{o:Oper}{a:Act}{T:TypeId}{x:Operand}{b k:Nat}{ys:List Value}(g:Region.wanted o (yielded ops a.tmps)=true)(ho:o.op=.load T x)(hx:a.eval x=Ω (some ⟨b,k,none⟩))(hS:∀ w,S w→w.rangeAt b k ys)
  (hu:(P.underlying T).map TypeDesc.isRow=some true)(hi:(P.info? T).map (·.size)=some ys.length):Wx P ops S o (.agg ys.toArray) a:=by
 obtain⟨d,hu,hr⟩:=Option.map_eq_some_iff.1 hu;exact YieldsIf.gives (yieldsIf_load_mid g T x ho b k hx ys d hS hu hr hi)
theorem Zbm{S:World→Prop}{o:Oper}{a:Act}{t e:TypeId}{x y:Operand}{b n c k sz:Nat}(g:Region.wanted o (yielded ops a.tmps)=true)(ho:o.op=.indexAddr t x y)(hx:a.eval x=Λ (some ⟨b,0,none⟩) n c)(hy:a.eval y=I J (k:Int))(hk:k<n)
  (hu:P.underlying t=some (.slice e))(hs:(P.info? e).map (·.size)=some sz):Wx P ops S o (Ω (some ⟨b,k*sz,none⟩)) a:=
 .inl ⟨g,fun w _=>.inl (by
  obtain⟨i,hi,hz⟩:=Option.map_eq_some_iff.1 hs;unfold execOp;rw[ho];have h0:(0:Int)≤(k:Int):=by omega
  have h1:(k:Int)<(n:Int):=by omega
  have h2:((k:Int)).toNat=k:=by omega
  simp[hx,hy,Instr.indexAt,asIntOf,run_underlying hu,sizeOf,typeInfo,hi,hz,h1,Addr.add_lit,Sem.run_bind,Sem.run_pure];intro hle;omega)⟩
theorem Vv{id:Nat}{a:Act}{w:World}(S:World→Prop)(hm:P.follows .mixedOrders=true)(hS:S w.drew)(h:AB P .any ops Q ops.size S (Array.replicate ops.size false) a):(Code.region id ops true).wp P Q a w:=
 wp_region_any hm (AB.any _ S _ _ _ h hS)
end
end Go.Proofs.YtbdecchpleiepaaGreat
