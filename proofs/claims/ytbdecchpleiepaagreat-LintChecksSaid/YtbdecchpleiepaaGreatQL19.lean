/- Parts of the proof. No conditions but those that each names. -/
import Derived.Deep.RegionHeld3
import Derived.Deep.DeepCutAuto
import Derived.Test.YtbdecchpleiepaaGreatQL16
set_option maxRecDepth 20000
set_option maxHeartbeats 99000000
set_option linter.unusedVariables false
set_option linter.unusedSimpArgs false
namespace Go.Proofs.YtbdecchpleiepaaGreat
open Go.Value renaming int→I,slice→Λ,pointer→Ω
open Go.IntKind renaming i64→J
open _root_.Go.Proofs.Tryz renaming prog→Φ
open And renaming intro→ζ
open Go.Ending renaming returned→η
open Go Go.RowKit
section
variable {P:Program} {ops:Array Oper} {rest:List Oper} {o:Oper} {a:Act} {w:World} {Q:Exit→Act→World→Prop}
theorem Zw(T:TypeId)(x:Operand)(g n:Nat)(vs:List Value)(hR:w.rangeAt g n vs)
  (hu:(P.underlying T).map TypeDesc.isRow=some true)(hi:(P.info? T).map (·.size)=some vs.length)
  (hgd:o.guard=none)(ho:o.op=.load T x)(hx:a.eval x=Ω (some ⟨g,n,none⟩))
  (h:wpList P ops Q rest (a.put o.dst (.agg vs.toArray)) w):wpList P ops Q (o::rest) a w:=by
 obtain⟨d,hu,hr⟩:=Option.map_eq_some_iff.1 hu;exact wpList_load_mid hgd T x ho g n hx vs d hR hu hr hi h
end
theorem Jc{w:World}{g:Nat}{t:TypeId}{a0 a1 a2 a3 a4 a5 a6 a7 a8 a9 a10 a11:Value}(W:Zi w g t #[a0,a1,a2,a3,a4,a5,a6,a7,a8,a9,a10,a11]) :
  w.cell? ⟨g,0,none⟩=some a0∧w.cell? ⟨g,1,none⟩=some a1∧w.cell? ⟨g,2,none⟩=some a2∧w.cell? ⟨g,3,none⟩=some a3∧w.cell? ⟨g,4,none⟩=some a4∧w.cell? ⟨g,5,none⟩=some a5∧w.cell? ⟨g,6,none⟩=some a6∧w.cell? ⟨g,7,none⟩=some a7∧w.cell? ⟨g,8,none⟩=some a8∧w.cell? ⟨g,9,none⟩=some a9∧w.cell? ⟨g,10,none⟩=some a10∧w.cell? ⟨g,11,none⟩=some a11:=
 ⟨W.read 0,W.read 1,W.read 2,W.read 3,W.read 4,W.read 5,W.read 6,W.read 7,W.read 8,W.read 9,W.read 10,W.read 11⟩
def lxsDs:List Ex→Ds
 |[]=>.nil
 |x::r=>x.ds.app (lxsDs r)
theorem lxs_at{N:Nat→Prop}{w:World}:∀{K:List Ex}{xs:List Value},Zs N w (lxsDs K) xs→∀(k:Nat)(hk:k<K.length),∃ pre ys post,xs=pre++ys++post∧pre.length=k*12∧Zs N w (K[k]'hk).ds ys
 |[],xs,_,k,hk=>by cases hk
 |x::r,xs,h,k,hk=>by
  obtain⟨a,b,rfl,h1,h2⟩:=Zs.split (x:=x.ds) h;cases k with
  |zero=>exact⟨[],a,b,rfl,by simp,h1⟩
  |succ k=>
   obtain⟨pre,ys,post,rfl,hp,hy⟩:=lxs_at h2 k (by simpa using hk);exact⟨a++pre,ys,post,by simp,by rw[List.length_append,hp,h1.len,Ex.ds_len];omega,hy⟩
theorem lz_ex:(Tryz.prog.info? 81).map (fun i=>i.zero.map Value.cells)=some (some ([I J 0,I J 0,I J 0,I J 0,I J 0,I J 0,Λ none 0 0,I J 0,I J 0,I J 0,I J 0,Λ none 0 0]:List Value).toArray):=by kernel_rfl
def Zlu(c:Sc):List Ex→Int
 |[]=>0
 |x::r=>orE (Ub c x) (Zlu c r)
theorem lKids_zero{c:Sc}:∀{K:List Ex},(∀ j (hj:j<K.length),Ub c (K[j]'hj)=0)→Zlu c K=0
 |[],_=>rfl
 |x::r,h=>by
  have h0:Ub c x=0:=h 0 (by simp);unfold Zlu orE;rw[if_pos h0];exact lKids_zero fun j hj=>by have:=h (j+1) (by simpa using hj);simpa using this
theorem lKids_at{c:Sc}:∀{K:List Ex}{k:Nat}(hk:k<K.length),(∀ j (hj:j<K.length),j<k→Ub c (K[j]'hj)=0)→Ub c (K[k]'hk)≠0→Zlu c K=Ub c (K[k]'hk)
 |[],k,hk,_,_=>by cases hk
 |x::r,0,_,_,h=>by
  have h0:Ub c x≠0:=h;unfold Zlu orE;rw[if_neg h0];rfl
 |x::r,k+1,hk,h,hn=>by
  have h0:Ub c x=0:=h 0 (by simp) (by omega);unfold Zlu orE;rw[if_pos h0];have hn':Ub c (r[k]'(by simpa using hk))≠0:=by simpa using hn
  have:=lKids_at (K:=r) (k:=k) (by simpa using hk) (fun j hj hlt=>by have:=h (j+1) (by simpa using hj) (by omega);simpa using this) hn';simpa using this
def LXOK(c:Sc)(st ln cl:Int)(A:Option Addr)(rn rk:Nat)(x:Ex):Prop:=∀(w:World)(N:Nat→Prop)(vs:List Value),Zs N w x.ds vs →
 Calls Φ 130 #[.agg (scL c st ln cl A rn rk).toArray,.agg vs.toArray] w fun e w'=>e=η (I J (Ub c x))∧Below w.heap.size w w'
section
variable (c:Sc) (st ln cl:Int) (A:Option Addr) (rn rk:Nat)
theorem lExpr_kids(n v0 v1 v2 v3 v5 sd tk tl:Int)(B:Option Addr)(fn fk:Nat)(K:List Ex)(C:Option Addr)(kc:Nat)(xs:List Value)(w:World)(N:Nat→Prop)(hw:Zbo N w C xs)(hd:Zs N w (lxsDs K) xs)(hK:K.length≤1000)
  (IH:∀ x ∈ K,LXOK c st ln cl A rn rk x) :
  Calls Φ 130 #[.agg (scL c st ln cl A rn rk).toArray,.agg ([I J 7,I J n,I J v0,I J v1,I J v2,I J v3,Λ B fn fk,I J v5,I J sd,I J tk,I J tl,Λ C K.length kc]:List Value).toArray] w fun e w'=>e=η (I J (Zlu c K))∧Below w.heap.size w w':=by
 obtain⟨kn,hkn⟩:∃ kn,kn=K.length:=⟨_,rfl⟩
 rw[←hkn]at hK ⊢;have HK:=Hh hkn;have HW:=Hh (ζ hw hd);have HI:=Hh IH;have HV:Hid (∃ V,V=Zlu c K):=Hh ⟨_,rfl⟩;clear hkn hw hd IH;obtain⟨V,hV⟩:=HV.out;rw[←hV];have HV2:=Hh hV;clear hV HV;have l1000:(kn:Int)≤1000:=by omega
 obtain⟨pl,whn,ea⟩:=c;dsimp only[scL]at *;have T:=Hh (Env.start w);go_enter Tryz.func130,Tryz.ntmps130;go_wp2_with(first
 |((with_reducible refine Zd 2 ?_);refine Zf T.out 107 _ ([I J whn,I J st,I J ln,I J cl,Λ A rn rk,.bool pl,.bool ea]) rfl rfl rfl ?_;intro wa g0 tn;have T:=Hh tn;clear tn;obtain⟨fc0,fc1,fc2,fc3,fc4,fc5,fc6⟩:=Yo (T.out.get 0 rfl))
 |((with_reducible refine Zd 3 ?_);refine Zf T.out 81 _ ([I J 7,I J n,I J v0,I J v1,I J v2,I J v3,Λ B fn fk,I J v5,I J sd,I J tk,I J tl,Λ C kn kc]) rfl rfl rfl ?_;intro wb g1 tn;have T:=Hh tn;clear tn;obtain⟨fc0,fc1,fc2,fc3,fc4,fc5,fc6⟩:=Yo (T.out.get 0 rfl);obtain⟨fd0,fd1,fd2,fd3,fd4,fd5,fd6,fd7,fd8,fd9,fd10,fd11⟩:=Jc (T.out.get 1 rfl)))
 go_loopw [39] (fun i wr=>∃ m:Nat,i=I J m∧m≤kn∧Env w [(g0,107,[I J whn,I J st,I J ln,I J cl,Λ A rn rk,.bool pl,.bool ea]),(g1,81,[I J 7,I J n,I J v0,I J v1,I J v2,I J v3,Λ B fn fk,I J v5,I J sd,I J tk,I J tl,Λ C kn kc])] [] [] wr∧Hid (∀ j (hj:j<K.length),j<m→Ub ⟨pl,whn,ea⟩ (K[j]'hj)=0)) (fun i _=>kn - (intOf i).toNat)
 case atStart=>exact⟨0,by go_num,Nat.zero_le _,T.out,Hh fun j hj h=>by omega⟩
 case round=>
  obtain⟨m,rfl,hm,hT,hz⟩:=hrel;have T:=Hh hT;clear hT;obtain⟨fc0,fc1,fc2,fc3,fc4,fc5,fc6⟩:=Yo (T.out.get 0 rfl);obtain⟨fd0,fd1,fd2,fd3,fd4,fd5,fd6,fd7,fd8,fd9,fd10,fd11⟩:=Jc (T.out.get 1 rfl);by_cases hlt:m<kn
  · have hk1:m<K.length:=by rw[←HK.out];exact hlt
    obtain⟨pre,ys,post,hxs,hp,hy⟩:=lxs_at HW.out.2 m hk1;have hyl:ys.length=12:=by rw[hy.len,Ex.ds_len]
    obtain⟨g,rfl,hg,hc⟩:=HW.out.1.reads (by rw[hxs];simp;omega);have hx:=HI.out (K[m]'hk1) (List.getElem_mem hk1);have hfin:=fun q=>lKids_at (c:=⟨pl,whn,ea⟩) hk1 (fun j hj h=>hz.out j hj h) q
    rw[←HV2.out]at hfin
    have hs:Ub ⟨pl,whn,ea⟩ (K[m]'hk1)=0→Hid (∀ j (hj:j<K.length),j<m+1→Ub ⟨pl,whn,ea⟩ (K[j]'hj)=0):=fun q=>Hh fun j hj h=>by
     rcases Nat.lt_succ_iff_lt_or_eq.1 h with r | rfl
     ·exact hz.out j hj r
     ·exact q
    unfold LXOK at hx;generalize K[m]=x at *;have hR:w.rangeAt g (m*12) ys:=Ut (by rw[hxs]at hc;exact hc) hp;have HR:Hid (∀ y,Below w.heap.size w y→y.rangeAt g (m*12) ys):=Hh fun y hb j v hv=>(World.cell?_of_block (a:=⟨g,m*12+j,none⟩) (hb.block g hg)).trans (hR j v hv)
    have HY:=Hh hy;obtain⟨v,hv⟩:∃ v,v=Ub ⟨pl,whn,ea⟩ x:=⟨_,rfl⟩
    rw[←hv]at hx hfin hs;clear hxs hp hc hR hy hz hv hk1;have lk:(m:Int)<(kn:Int):=by omega
    by_cases h0:v=0
    ·have hs2:=hs h0
     clear hs hfin;subst h0;go_wp2_with(first
 |((with_reducible refine Zd 42 ?_);refine Zw 81 _ g (m*12) ys (HR.out _ T.out.below) Yy (by rw[hyl];exact Yi) rfl rfl rfl ?_)
 |((with_reducible refine Zd 6 ?_);refine Zb T.out 81 _ rfl rfl lz_ex ?_;intro wc g2 tn;have T:=Hh tn;clear tn;obtain⟨fc0,fc1,fc2,fc3,fc4,fc5,fc6⟩:=Yo (T.out.get 0 rfl);obtain⟨fd0,fd1,fd2,fd3,fd4,fd5,fd6,fd7,fd8,fd9,fd10,fd11⟩:=Jc (T.out.get 1 rfl))
 |((with_reducible refine Zg 6 42 ?_);refine Za 81 _ _ 81 g2 _ ys (T.out.get 2 rfl) hyl (by rw[hyl];exact Yi) HY.out.one rfl rfl rfl rfl rfl ?_;intro wd p;have T:=Hh (T.out.put 2 rfl p);clear p;obtain⟨fc0,fc1,fc2,fc3,fc4,fc5,fc6⟩:=Yo (T.out.get 0 rfl);obtain⟨fd0,fd1,fd2,fd3,fd4,fd5,fd6,fd7,fd8,fd9,fd10,fd11⟩:=Jc (T.out.get 1 rfl))
 |((with_reducible refine Zd 44 ?_);refine Zc 81 _ 81 g2 ys (T.out.get 2 rfl) Yy (by rw[hyl];exact Yi) rfl rfl rfl ?_)
 |(go_at_call 130;refine(hx _ _ _ (HY.out.below T.out.below)).mono ?_;rintro e we ⟨rfl,bn⟩;have T:=Hh (T.out.call bn);clear bn;obtain⟨fc0,fc1,fc2,fc3,fc4,fc5,fc6⟩:=Yo (T.out.get 0 rfl);obtain⟨fd0,fd1,fd2,fd3,fd4,fd5,fd6,fd7,fd8,fd9,fd10,fd11⟩:=Jc (T.out.get 1 rfl)))
     go_roundw
     case rel=>exact⟨m+1,by go_num,by omega,T.out.less (bs:=[_,_]) (cs:=[_]) (ts:=[]) (us:=[]),hs2⟩
     case measure=>simp[intOf];omega
    ·have hb0:(v == 0)=false:=by simpa using h0
     have hf:=hfin h0;subst hf;clear hs hfin;go_wp2_with(first
 |((with_reducible refine Zd 42 ?_);refine Zw 81 _ g (m*12) ys (HR.out _ T.out.below) Yy (by rw[hyl];exact Yi) rfl rfl rfl ?_)
 |((with_reducible refine Zd 6 ?_);refine Zb T.out 81 _ rfl rfl lz_ex ?_;intro wc g2 tn;have T:=Hh tn;clear tn;obtain⟨fc0,fc1,fc2,fc3,fc4,fc5,fc6⟩:=Yo (T.out.get 0 rfl);obtain⟨fd0,fd1,fd2,fd3,fd4,fd5,fd6,fd7,fd8,fd9,fd10,fd11⟩:=Jc (T.out.get 1 rfl))
 |((with_reducible refine Zg 6 42 ?_);refine Za 81 _ _ 81 g2 _ ys (T.out.get 2 rfl) hyl (by rw[hyl];exact Yi) HY.out.one rfl rfl rfl rfl rfl ?_;intro wd p;have T:=Hh (T.out.put 2 rfl p);clear p;obtain⟨fc0,fc1,fc2,fc3,fc4,fc5,fc6⟩:=Yo (T.out.get 0 rfl);obtain⟨fd0,fd1,fd2,fd3,fd4,fd5,fd6,fd7,fd8,fd9,fd10,fd11⟩:=Jc (T.out.get 1 rfl))
 |((with_reducible refine Zd 44 ?_);refine Zc 81 _ 81 g2 ys (T.out.get 2 rfl) Yy (by rw[hyl];exact Yi) rfl rfl rfl ?_)
 |(go_at_call 130;refine(hx _ _ _ (HY.out.below T.out.below)).mono ?_;rintro e we ⟨rfl,bn⟩;have T:=Hh (T.out.call bn);clear bn;obtain⟨fc0,fc1,fc2,fc3,fc4,fc5,fc6⟩:=Yo (T.out.get 0 rfl);obtain⟨fd0,fd1,fd2,fd3,fd4,fd5,fd6,fd7,fd8,fd9,fd10,fd11⟩:=Jc (T.out.get 1 rfl)))
     go_ret;exact⟨rfl,T.out.below⟩
  · have hf:=lKids_zero (c:=⟨pl,whn,ea⟩) (K:=K) fun j hj=>hz.out j hj (by have:=HK.out;omega)
    rw[←HV2.out]at hf;subst hf;clear hz;go_wp2
    go_ret;exact⟨rfl,T.out.below⟩
theorem flat6{w x:World}{g0 g1:Nat}{whn st ln cl n v0 v1 v2 v3 v5 sd tk tl:Int}{pl ea:Bool}{A B C:Option Addr}{rn rk fn fk kc:Nat}(h:Env w [(g0,107,[I J whn,I J st,I J ln,I J cl,Λ A rn rk,.bool pl,.bool ea]),(g1,81,[I J 6,I J n,I J v0,I J v1,I J v2,I J v3,Λ B fn fk,I J v5,I J sd,I J tk,I J tl,Λ C 0 kc])] [] [] x) :
  Env w [(g0,107,[I J whn,I J st,I J ln,I J cl,Λ A rn rk,.bool pl,.bool ea]),(g1,81,[I J 6,I J n,I J v0,I J v1,I J v2,I J v3,Λ B fn fk,I J v5,I J sd,I J tk,I J tl,Λ C 0 kc])] [] [] x∧x.cell? ⟨g0,0,none⟩=some (I J whn)∧x.cell? ⟨g0,1,none⟩=some (I J st)∧x.cell? ⟨g0,2,none⟩=some (I J ln)∧x.cell? ⟨g0,3,none⟩=some (I J cl)∧x.cell? ⟨g0,4,none⟩=some (Λ A rn rk)∧x.cell? ⟨g0,5,none⟩=some (.bool pl)∧x.cell? ⟨g0,6,none⟩=some (.bool ea)∧x.cell? ⟨g1,8,none⟩=some (I J sd)∧x.cell? ⟨g1,9,none⟩=some (I J tk)∧x.cell? ⟨g1,10,none⟩=some (I J tl):=by
 obtain⟨fc0,fc1,fc2,fc3,fc4,fc5,fc6⟩:=Yo (h.get 0 rfl);obtain⟨fd0,fd1,fd2,fd3,fd4,fd5,fd6,fd7,fd8,fd9,fd10,fd11⟩:=Jc (h.get 1 rfl);exact⟨h,fc0,fc1,fc2,fc3,fc4,fc5,fc6,fd8,fd9,fd10⟩
theorem lExpr_leaf(k n:Int)(s:Se)(sd tk tl:Int):LXOK c st ln cl A rn rk (.leaf k n s sd tk tl):=by
 intro w N vs h;obtain⟨_,rfl,_,rfl,h⟩:=h;obtain⟨sv,_,rfl,hs,h⟩:=Zs.split (x:=s.ds) h;obtain⟨_,rfl,_,rfl,_,rfl,C,kc,xs,_,rfl,_,hw,hd,rfl⟩:=h;have hd:xs=[]:=hd;subst hd;by_cases h7:k=7
 ·subst h7
  obtain⟨v0,v1,v2,v3,fs,v5⟩:=s;obtain⟨_,rfl,_,rfl,_,rfl,_,rfl,B,fk,ys,_,rfl,_,_,_,_,rfl,rfl⟩:=hs;exact lExpr_kids c st ln cl A rn rk n v0 v1 v2 v3 v5 sd tk tl B fs.length fk [] C kc [] w N hw rfl (by simp) (fun x hx=>by cases hx)
 have hsel:=fun x hx=>lSel_any c st ln cl A rn rk s x N sv hx
 have hsd:=fun x=>Zmy c st ln cl A rn rk sd x
 have hto:=fun x=>lTo_any tk tl x
 have hv:Ub c (.leaf k n s sd tk tl)=if k=2∨k=3 then Jy c s else if k=5 then Uo c sd else if k=6 then orE (Uo c sd) (lTo tk tl)else 0:=rfl
 generalize Ub c (.leaf k n s sd tk tl)=V at *;generalize Jy c s=d1 at *;generalize Uo c sd=d2 at *;generalize lTo tk tl=d3 at *;have HS:=Hh hs;obtain⟨v0,v1,v2,v3,fs,v5⟩:=s;obtain⟨_,rfl,_,rfl,_,rfl,_,rfl,B,fk,ys,_,rfl,_,_,_,_,rfl,rfl⟩:=hs;generalize hfn:fs.length=fn at *;replace hsel:=fun x (hb:Below w.heap.size w x)=>hsel x (HS.out.below hb)
 clear HS hfn;obtain⟨pl,whn,ea⟩:=c;dsimp only[scL]at *;have T:=Hh (Env.start w);go_enter Tryz.func130,Tryz.ntmps130;by_cases h2:k=2∨k=3
 ·rw[if_pos h2]at hv
  subst hv;rcases h2 with rfl | rfl
  · go_wp2_with(first
 |((with_reducible refine Zd 2 ?_);refine Zf T.out 107 _ ([I J whn,I J st,I J ln,I J cl,Λ A rn rk,.bool pl,.bool ea]) rfl rfl rfl ?_;intro wa g0 tn;have T:=Hh tn;clear tn;obtain⟨fc0,fc1,fc2,fc3,fc4,fc5,fc6⟩:=Yo (T.out.get 0 rfl))
 |((with_reducible refine Zd 3 ?_);refine Zf T.out 81 _ ([I J 2,I J n,I J v0,I J v1,I J v2,I J v3,Λ B fn fk,I J v5,I J sd,I J tk,I J tl,Λ C 0 kc]) rfl rfl rfl ?_;intro wb g1 tn;have T:=Hh tn;clear tn;obtain⟨fc0,fc1,fc2,fc3,fc4,fc5,fc6⟩:=Yo (T.out.get 0 rfl);obtain⟨fd0,fd1,fd2,fd3,fd4,fd5,fd6,fd7,fd8,fd9,fd10,fd11⟩:=Jc (T.out.get 1 rfl))
 |(go_at_call 129;refine(hsel _ T.out.below).mono ?_;rintro e we ⟨rfl,bn⟩;have T:=Hh (T.out.call bn);clear bn))
    go_ret;exact⟨rfl,T.out.below⟩
  · go_wp2_with(first
 |((with_reducible refine Zd 2 ?_);refine Zf T.out 107 _ ([I J whn,I J st,I J ln,I J cl,Λ A rn rk,.bool pl,.bool ea]) rfl rfl rfl ?_;intro wa g0 tn;have T:=Hh tn;clear tn;obtain⟨fc0,fc1,fc2,fc3,fc4,fc5,fc6⟩:=Yo (T.out.get 0 rfl))
 |((with_reducible refine Zd 3 ?_);refine Zf T.out 81 _ ([I J 3,I J n,I J v0,I J v1,I J v2,I J v3,Λ B fn fk,I J v5,I J sd,I J tk,I J tl,Λ C 0 kc]) rfl rfl rfl ?_;intro wb g1 tn;have T:=Hh tn;clear tn;obtain⟨fc0,fc1,fc2,fc3,fc4,fc5,fc6⟩:=Yo (T.out.get 0 rfl);obtain⟨fd0,fd1,fd2,fd3,fd4,fd5,fd6,fd7,fd8,fd9,fd10,fd11⟩:=Jc (T.out.get 1 rfl))
 |(go_at_call 129;refine(hsel _ T.out.below).mono ?_;rintro e we ⟨rfl,bn⟩;have T:=Hh (T.out.call bn);clear bn))
    go_ret;exact⟨rfl,T.out.below⟩
 ·rw[if_neg h2]at hv
  by_cases h5:k=5
  · rw[if_pos h5]at hv
    subst h5 hv;go_wp2_with(first
 |((with_reducible refine Zd 2 ?_);refine Zf T.out 107 _ ([I J whn,I J st,I J ln,I J cl,Λ A rn rk,.bool pl,.bool ea]) rfl rfl rfl ?_;intro wa g0 tn;have T:=Hh tn;clear tn;obtain⟨fc0,fc1,fc2,fc3,fc4,fc5,fc6⟩:=Yo (T.out.get 0 rfl))
 |((with_reducible refine Zd 3 ?_);refine Zf T.out 81 _ ([I J 5,I J n,I J v0,I J v1,I J v2,I J v3,Λ B fn fk,I J v5,I J sd,I J tk,I J tl,Λ C 0 kc]) rfl rfl rfl ?_;intro wb g1 tn;have T:=Hh tn;clear tn;obtain⟨fc0,fc1,fc2,fc3,fc4,fc5,fc6⟩:=Yo (T.out.get 0 rfl);obtain⟨fd0,fd1,fd2,fd3,fd4,fd5,fd6,fd7,fd8,fd9,fd10,fd11⟩:=Jc (T.out.get 1 rfl))
 |(go_at_call 132;refine(hsd _).mono ?_;rintro e we ⟨rfl,bn⟩;have T:=Hh (T.out.call bn);clear bn))
    go_ret;exact⟨rfl,T.out.below⟩
  · rw[if_neg h5]at hv
    by_cases h6:k=6
    ·rw[if_pos h6]at hv
     subst h6;clear h2 h5 h7;go_upto_region 8 with(first
 |((with_reducible refine Zd 2 ?_);refine Zf T.out 107 _ ([I J whn,I J st,I J ln,I J cl,Λ A rn rk,.bool pl,.bool ea]) rfl rfl rfl ?_;intro wa g0 tn;have T:=Hh tn;clear tn;obtain⟨fc0,fc1,fc2,fc3,fc4,fc5,fc6⟩:=Yo (T.out.get 0 rfl))
 |((with_reducible refine Zd 3 ?_);refine Zf T.out 81 _ ([I J 6,I J n,I J v0,I J v1,I J v2,I J v3,Λ B fn fk,I J v5,I J sd,I J tk,I J tl,Λ C 0 kc]) rfl rfl rfl ?_;intro wb g1 tn;have T:=Hh tn;clear tn;obtain⟨fc0,fc1,fc2,fc3,fc4,fc5,fc6⟩:=Yo (T.out.get 0 rfl);obtain⟨fd0,fd1,fd2,fd3,fd4,fd5,fd6,fd7,fd8,fd9,fd10,fd11⟩:=Jc (T.out.get 1 rfl)))
     go_region_held3 (fun x=>Env w [(g0,107,[I J whn,I J st,I J ln,I J cl,Λ A rn rk,.bool pl,.bool ea]),(g1,81,[I J 6,I J n,I J v0,I J v1,I J v2,I J v3,Λ B fn fk,I J v5,I J sd,I J tk,I J tl,Λ C 0 kc])] [] [] x∧x.cell? ⟨g0,0,none⟩=some (I J whn)∧x.cell? ⟨g0,1,none⟩=some (I J st)∧x.cell? ⟨g0,2,none⟩=some (I J ln)∧x.cell? ⟨g0,3,none⟩=some (I J cl)∧x.cell? ⟨g0,4,none⟩=some (Λ A rn rk)∧x.cell? ⟨g0,5,none⟩=some (.bool pl)∧x.cell? ⟨g0,6,none⟩=some (.bool ea)∧x.cell? ⟨g1,8,none⟩=some (I J sd)∧x.cell? ⟨g1,9,none⟩=some (I J tk)∧x.cell? ⟨g1,10,none⟩=some (I J tl)) (first
 |assumption
 |exact flat6 T.out
 |exact flat6 T.out.drew
 |exact flat6 (Env.call (by first | assumption | exact And.left (by assumption)) bn)
 |exact flat6 (Env.call (by first | assumption | exact And.left (by assumption)) (Zh _ _))) (first
 |(go_at_call 132;refine(hsd _).mono ?_;rintro e we ⟨rfl,bn⟩)
 |(go_at_call 131;refine(hto _).mono ?_;rintro e we ⟨rfl,bn⟩)
 |(go_at_call 99;refine(Zod [d2,d3] 2 2 _ _ rfl (by omega) (Zi.made _ _ _)).mono ?_;rintro e we ⟨rfl,bn⟩))
     all_goals
      have T9:Env w [(g0,107,[I J whn,I J st,I J ln,I J cl,Λ A rn rk,.bool pl,.bool ea]),(g1,81,[I J 6,I J n,I J v0,I J v1,I J v2,I J v3,Λ B fn fk,I J v5,I J sd,I J tk,I J tl,Λ C 0 kc])] [] [] we:=by first | assumption | exact And.left (by assumption)
      go_wp2
      go_ret;exact⟨by rw[hv,orE2];rfl,T9.below⟩
    ·rw[if_neg h6]at hv
     subst hv;have b2:(k == 2)=false:=by rw[beq_eq_false_iff_ne];omega
     have b3:(k == 3)=false:=by rw[beq_eq_false_iff_ne];omega
     have b5:(k == 5)=false:=by rw[beq_eq_false_iff_ne];omega
     have b6:(k == 6)=false:=by rw[beq_eq_false_iff_ne];omega
     have b7:(k == 7)=false:=by rw[beq_eq_false_iff_ne];omega
     clear h2 h5 h6 h7;go_wp2_with(first
 |((with_reducible refine Zd 2 ?_);refine Zf T.out 107 _ ([I J whn,I J st,I J ln,I J cl,Λ A rn rk,.bool pl,.bool ea]) rfl rfl rfl ?_;intro wa g0 tn;have T:=Hh tn;clear tn;obtain⟨fc0,fc1,fc2,fc3,fc4,fc5,fc6⟩:=Yo (T.out.get 0 rfl))
 |((with_reducible refine Zd 3 ?_);refine Zf T.out 81 _ ([I J k,I J n,I J v0,I J v1,I J v2,I J v3,Λ B fn fk,I J v5,I J sd,I J tk,I J tl,Λ C 0 kc]) rfl rfl rfl ?_;intro wb g1 tn;have T:=Hh tn;clear tn;obtain⟨fc0,fc1,fc2,fc3,fc4,fc5,fc6⟩:=Yo (T.out.get 0 rfl);obtain⟨fd0,fd1,fd2,fd3,fd4,fd5,fd6,fd7,fd8,fd9,fd10,fd11⟩:=Jc (T.out.get 1 rfl)))
     go_ret;exact⟨rfl,T.out.below⟩
theorem Zgp:∀ x:Ex,LXOK c st ln cl A rn rk x
 |.leaf k n s sd tk tl=>lExpr_leaf c st ln cl A rn rk k n s sd tk tl
 |.bin op l r=>by
  have hl:=Zgp l;have hr:=Zgp r;intro w N vs h;obtain⟨_,rfl,_,rfl,h⟩:=h;obtain⟨sv,_,rfl,hs,h⟩:=Zs.split (x:=zSe.ds) h;obtain⟨_,rfl,_,rfl,_,rfl,C,kc,xs,_,rfl,_,hw,hd,rfl⟩:=h;obtain⟨_,rfl,_,rfl,_,rfl,_,rfl,B,fk,ys,_,rfl,_,_,_,_,rfl,rfl⟩:=hs
  have hk:Ub c (.bin op l r)=Zlu c [l,r]:=by
   show orE (Ub c l) (Ub c r)=orE (Ub c l) (orE (Ub c r) 0);unfold orE;split<;>(try split)<;>omega
  rw[hk]
  exact lExpr_kids c st ln cl A rn rk op 0 0 0 0 0 0 0 0 B 0 fk [l,r] C kc xs w N hw (by show Zs N w (l.ds.app (r.ds.app .nil)) xs;rw[Ds.app_nil];exact hd) (by simp) (fun x hx=>by
   rcases List.mem_cons.1 hx with rfl | hx
   ·exact hl
   ·cases List.mem_singleton.1 hx;exact hr)
end
end Go.Proofs.YtbdecchpleiepaaGreat
