/- Parts of the proof. No conditions but those that each names. -/
import Derived.Test.YtbdecchpleiepaaGreatQL32
set_option maxRecDepth 20000
set_option maxHeartbeats 99000000
set_option linter.unusedVariables false
set_option linter.unusedSimpArgs false
namespace Go.Proofs.YtbdecchpleiepaaGreat
open Go.Value renaming int→I,slice→Λ,string→Ψ,oneCell'→Γ
open Go.IntKind renaming i64→J
open _root_.Go.Proofs.Tryz renaming prog→Φ
open And renaming intro→ζ
open Go.Ending renaming returned→η
open Go Go.RowKit
theorem lund_strs:Tryz.prog.underlying 58=some (.slice 9):=by kernel_rfl
theorem linfo_str:(Tryz.prog.info? 9).map (fun i=>(i.zero,i.size,i.bytes))=some (some (Ψ ⟨#[]⟩),1,16):=by kernel_rfl
theorem Zlt:(Tryz.prog.info? 27).map (·.size)=some 1:=by kernel_rfl
theorem head_field(nm:ByteArray)(l c:Int)(w:World):(Instr.field 67 (.agg #[Ψ nm,I J l,I J c]) 0).run Φ w=.ok (Ψ nm) w:=by kernel_rfl
theorem Env.lnorow{w x:World}{bs:List Bk}{rs:List Rw}{ts:List (Ds×List Value)}(h:Env w bs rs ts x):Env w bs [] [] x:=
 ⟨h.at_,h.lo,h.nod,(fun r hr=>by cases hr),(fun r hr=>by cases hr),List.Pairwise.nil,(fun u hu=>by cases hu),h.below⟩
theorem Env.one2{w x:World}{a b:Bk}{rs:List Rw}(h:Env w [a,b] rs [] x):Env w [a] rs [] x:=Env.less (bs:=[a]) (cs:=[b]) (ts:=[]) (us:=[]) h
theorem Env.one4{w x:World}{a b c d:Bk}{rs:List Rw}(h:Env w [a,b,c,d] rs [] x):Env w [a] rs [] x:=Env.less (bs:=[a]) (cs:=[b,c,d]) (ts:=[]) (us:=[]) h
theorem Um:(Tryz.prog.underlying 36).map TypeDesc.isRow=some true:=by kernel_rfl
theorem Xt:(Tryz.prog.info? 36).map (·.size)=some 6:=by kernel_rfl
theorem Znp:(Tryz.prog.info? 36).map (fun i=>i.zero.map Value.cells)=some (some ([Ψ ⟨#[]⟩,I J 0,I J 0,I J 0,I J 0,Λ none 0 0]:List Value).toArray):=by kernel_rfl
theorem Zan:(Tryz.prog.underlying 45).map TypeDesc.isRow=some true:=by kernel_rfl
theorem Wc:(Tryz.prog.info? 45).map (·.size)=some 4:=by kernel_rfl
theorem lz_pl:(Tryz.prog.info? 45).map (fun i=>i.zero.map Value.cells)=some (some ([Ψ ⟨#[]⟩,I J 0,I J 0,Λ none 0 0]:List Value).toArray):=by kernel_rfl
theorem Zjd{N:Nat→Prop}{w:World}:∀{l:List Ca}{xs:List Value},Zs N w (Zcg l) xs→∀(k:Nat)(hk:k<l.length),∃ pre ys post,xs=pre++ys++post∧pre.length=k*6∧Zs N w (l[k]'hk).ds ys
 |[],xs,_,k,hk=>by cases hk
 |x::r,xs,h,k,hk=>by
  obtain⟨a,b,rfl,h1,h2⟩:=Zs.split (x:=x.ds) h;cases k with
  |zero=>exact⟨[],a,b,rfl,by simp,h1⟩
  |succ k=>
   obtain⟨pre,ys,post,rfl,hp,hy⟩:=Zjd h2 k (by simpa using hk);have hl:a.length=6:=by rw[h1.len];rfl
   exact⟨a++pre,ys,post,by simp,by rw[List.length_append,hp,hl];omega,hy⟩
theorem lCards_drop(tw:Int)(l:List Ca)(m:Nat)(h:m<l.length):Zay tw m (l.drop m)=if(Zjx 128 tw m (l[m]'h).line (l[m]'h).col (Zfr (l[m]'h))).1=0 then Zay tw (m+1) (l.drop (m+1))else Zjx 128 tw m (l[m]'h).line (l[m]'h).col (Zfr (l[m]'h)):=by
 rw[List.drop_eq_getElem_cons h];rfl
theorem lHeadCD(x:Ca)(w:World)(N:Nat→Prop)(vs:List Value)(h:Zs N w x.ds vs):Calls Φ 25 #[.agg vs.toArray] w fun e w'=>e=η (.agg ([Ψ x.name,I J x.line,I J x.col]:List Value).toArray)∧Below w.heap.size w w':=by
 obtain⟨nm,cost,pow,cln,ccl,rules⟩:=x;obtain⟨_,rfl,_,rfl,_,rfl,_,rfl,_,rfl,D,k,zs,_,rfl,_,_,_,rfl⟩:=h;exact lHeadC nm cost pow cln ccl D _ k w
theorem lListedC(l:List Ca)(hlen:l.length≤1000000)(w:World)(N:Nat→Prop)(v:Value)(hv:Zs N w (.row l.length (Zcg l) .nil) [v]) :
  Calls Φ 28 #[v,I J 128,.func (.func 25) #[] #[],.func (.func 9) #[] #[]] w fun e w'=>e=η (faV (Zay (Jn (Ys (l.map Ca.name))) 0 l))∧Below w.heap.size w w':=by
 obtain⟨B,bc,cs,rfl,hn,hw,hd⟩:=hv.inRow;clear hv;obtain⟨n,hn0⟩:∃ n,n=l.length:=⟨_,rfl⟩
 rw[←hn0]at hn hlen ⊢;have HN:=Hh hn0;have HW:=Hh (ζ hw hd);obtain⟨tw,htw⟩:∃ tw,tw=Jn (Ys (l.map Ca.name)):=⟨_,rfl⟩
 have HT:=Hh htw;rw[←htw];obtain⟨R,hR⟩:∃ R,R=Zay tw 0 l:=⟨_,rfl⟩
 rw[←hR];have HV:=Hh hR;clear hw hd hn0 hR htw;have l63:(n:Int)≤1000000:=by omega
 have T:=Hh (Env.start w);go_enter Tryz.func28,Tryz.ntmps28;go_wp2_with(((with_reducible refine Zd 8 ?_);refine Zb T.out 29 _ rfl rfl Wu ?_;intro wa g1 tn;have T:=Hh tn;clear tn))
 go_loopw [9,19] (fun s i wy=>∃(m:Nat)(V:Option Addr)(d:Nat)(xs:List Value),i=I J m∧m≤n∧s=Λ V m d∧xs=Vh ((l.take m).map Ca.name)∧Env w [(g1,29,[I J 0,I J 0,I J 0])] [⟨Λ V m d,9,1,m,xs⟩] [] wy) (fun _ i _=>n - (intOf i).toNat)
 case atStart=>exact⟨0,none,0,[],by go_num,Nat.zero_le _,rfl,rfl,T.out.row1 9 1⟩
 case round=>
  obtain⟨m,V,d,xs,rfl,hm,rfl,hxs0,hT⟩:=hrel;have T:=Hh hT;have HX:=Hh hxs0;clear hT hxs0;by_cases hlt:m<n
  · have hk1:m<l.length:=by rw[←HN.out];exact hlt
    obtain⟨pre,ys,post,hxs,hp,hy⟩:=Zjd HW.out.2 m hk1;have hyl:ys.length=6:=by rw[hy.len];rfl
    obtain⟨g,rfl,hg,hcc⟩:=HW.out.1.reads (by rw[hxs];simp;omega);have hR:w.rangeAt g (m*6) ys:=Ut (by rw[hxs]at hcc;exact hcc) hp
    have hnew:Vh ((l.take (m+1)).map Ca.name)=xs++[Ψ (l[m]'hk1).name]:=by
     rw[HX.out,List.take_add_one,List.getElem?_eq_getElem hk1];simp only[Vh,List.map_append,Option.toList_some,List.map_cons,List.map_nil]
    generalize l[m]=x at *;have hh:=fun y (hb:Below w.heap.size w y)=>lHeadCD x y N ys (hy.below hb)
    have HNEW:=Hh hnew;generalize x.name=nm at *;generalize x.line=xl at *;generalize x.col=xc at *;have hfd:=fun(y:World)=>head_field nm xl xc y
    have HR:Hid (∀ y,Below w.heap.size w y→y.rangeAt g (m*6) ys):=Hh fun y hb j v hv=>(World.cell?_of_block (a:=⟨g,m*6+j,none⟩) (hb.block g hg)).trans (hR j v hv)
    have HY:=Hh hy;clear hxs hp hcc hR hk1 hy hnew HX;have lk:(m:Int)<(n:Int):=by omega
    go_wp2_with(first
 |((with_reducible refine Zd 22 ?_);refine Zw 36 _ g (m*6) ys (HR.out _ T.out.below) Um (by rw[hyl];exact Xt) rfl rfl rfl ?_)
 |((with_reducible refine Zd 11 ?_);refine Zb T.out 36 _ rfl rfl Znp ?_;intro wc g2 tn;have T:=Hh tn;clear tn)
 |((with_reducible refine Zg 11 22 ?_);refine Za 36 _ _ 36 g2 _ (ys) (T.out.get 1 rfl) hyl (by rw[hyl];exact Xt) HY.out.one rfl rfl rfl rfl rfl ?_;intro wd p;have T:=Hh (T.out.put 1 rfl p);clear p)
 |((with_reducible refine Zd 25 ?_);refine Zc 36 _ 36 g2 (ys) (T.out.get 1 rfl) Um (by rw[hyl];exact Xt) rfl rfl rfl ?_)
 |(go_at_call 25;refine(hh _ T.out.below).mono ?_;rintro e we ⟨rfl,bn⟩;have T:=Hh (T.out.call bn);clear bn)
 |(at_builtin;refine Wf (.tmp 23) (.tmp 28) 58 9 1 16 _ lund_strs linfo_str rfl (by decide) (by decide) w.heap.size (Λ V m d) m xs [Ψ nm] ((T.out.call (Zh _ (.cells ([Ψ nm]:List Value).toArray 9))).row _ (List.mem_singleton.2 rfl)) we.heap.size (Zi.made _ _ _) rfl (by simp[Γ]) (by omega) (by have:=T.out.below.size;simp;omega) rfl rfl rfl rfl ?_;intro v9 w9 o9 g9 at9;obtain⟨V9,d9,rfl,_⟩:=Yx o9;have T:=Hh ((T.out.call (Zh _ (.cells ([Ψ nm]:List Value).toArray 9))).push o9 g9 at9);clear o9 g9 at9))
    go_roundw
    case rel=>exact⟨m+1,V9,d9,xs++[Value.string nm],by go_num,by omega,rfl,HNEW.out.symm,Env.one2 T.out⟩
    case measure=>simp[intOf];omega
  · obtain rfl:m=n:=by omega
    have hread:Zbp wr V (Vh (l.map Ca.name)):=by
     obtain⟨V2,d2,e2,_,_,k0⟩:=Yx (T.out.row _ (List.mem_singleton.2 rfl));injection e2 with e2;subst e2;rw[HX.out,List.take_of_length_le (by have:=HN.out;omega)]at k0;exact k0.reads
    have htwice:=Twice_any V d (l.map Ca.name) wr hread (by rw[List.length_map];have:=HN.out;omega);rw[List.length_map,←HN.out,←HT.out]at htwice;have T:=Hh T.out.lnorow;clear hread HX;go_wp2_with(go_at_call 47;refine htwice.mono ?_;rintro e wt ⟨rfl,bn⟩;have T:=Hh (T.out.call bn);clear bn)
    clear htwice;go_loopw [35] (fun i wy=>∃ q:Nat,i=I J q∧q≤m∧Env w [(g1,29,[I J 0,I J 0,I J 0])] [] [] wy∧Hid (R=Zay tw q (l.drop q))) (fun i _=>m - (intOf i).toNat)
    case atStart=>exact⟨0,by go_num,Nat.zero_le _,T.out,Hh (by rw[HV.out];rfl)⟩
    case round=>
     obtain⟨q,rfl,hq,hT,hz⟩:=hrel;have T:=Hh hT;clear hT;by_cases hlt2:q<m
     ·have hk1:q<l.length:=by rw[←HN.out];exact hlt2
      obtain⟨pre,ys,post,hxs,hp,hy⟩:=Zjd HW.out.2 q hk1;have hyl:ys.length=6:=by rw[hy.len];rfl
      obtain⟨g,rfl,hg,hcc⟩:=HW.out.1.reads (by rw[hxs];simp;omega);have hR:w.rangeAt g (q*6) ys:=Ut (by rw[hxs]at hcc;exact hcc) hp;have hz2:=hz.out;rw[lCards_drop tw l q hk1]at hz2;generalize l[q]=x at *;have hh:=fun y (hb:Below w.heap.size w y)=>lHeadCD x y N ys (hy.below hb)
      have hc:=fun y (hb:Below w.heap.size w y)=>lCard_any x y N ys (hy.below hb)
      generalize Zfr x=F at *;generalize x.name=nm at *;generalize x.line=xl at *;generalize x.col=xc at *;have HR:Hid (∀ y,Below w.heap.size w y→y.rangeAt g (q*6) ys):=Hh fun y hb j v hv=>(World.cell?_of_block (a:=⟨g,q*6+j,none⟩) (hb.block g hg)).trans (hR j v hv)
      have HY:=Hh hy;unfold Zjx at hz2;clear hxs hp hcc hR hk1 hy hz hlt;have lk:(q:Int)<(m:Int):=by omega
      by_cases hA:(128:Int)≤(q:Int)
      ·rw[if_pos hA,if_neg (show ¬((9:Int)=0)from by decide)]at hz2
       subst hz2;clear hc;go_wp2_with(first
 |((with_reducible refine Zd 39 ?_);refine Zw 36 _ g (q*6) ys (HR.out _ T.out.below) Um (by rw[hyl];exact Xt) rfl rfl rfl ?_)
 |((with_reducible refine Zd 14 ?_);refine Zb T.out 36 _ rfl rfl Znp ?_;intro wc g2 tn;have T:=Hh tn;clear tn)
 |((with_reducible refine Zg 14 39 ?_);refine Za 36 _ _ 36 g2 _ (ys) (T.out.get 1 rfl) hyl (by rw[hyl];exact Xt) HY.out.one rfl rfl rfl rfl rfl ?_;intro wd p;have T:=Hh (T.out.put 1 rfl p);clear p)
 |((with_reducible refine Zd 41 ?_);refine Zc 36 _ 36 g2 (ys) (T.out.get 1 rfl) Um (by rw[hyl];exact Xt) rfl rfl rfl ?_)
 |(go_at_call 25;refine(hh _ T.out.below).mono ?_;rintro e we ⟨rfl,bn⟩;have T:=Hh (T.out.call bn);clear bn)
 |((with_reducible refine Zd 15 ?_);refine Zb T.out 67 _ rfl rfl Zkf ?_;intro wf g3 tn;have T:=Hh tn;clear tn)
 |((with_reducible refine Zg 15 42 ?_);refine Za 67 _ _ 67 g3 _ ([Ψ nm,I J xl,I J xc]) (T.out.get 2 rfl) rfl Zat (by simp[Γ]) rfl rfl rfl rfl rfl ?_;intro wd p;have T:=Hh (T.out.put 2 rfl p);clear p;obtain⟨j0,j1,j2,_,_,_⟩:=Zo (T.out.get 2 rfl))
 |((with_reducible refine Zd 16 ?_);refine Zb T.out 29 _ rfl rfl Wu ?_;intro wg g4 tn;have T:=Hh tn;clear tn)
 |((with_reducible refine Zg 16 47 ?_);refine Za 29 _ _ 29 g4 _ ([I J 0,I J xl,I J xc]) (T.out.get 3 rfl) rfl Zj (by simp[Γ]) rfl rfl rfl rfl rfl ?_;intro wd p;have T:=Hh (T.out.put 3 rfl p);clear p;obtain⟨k0,k1,k2,_,_,_⟩:=Zo (T.out.get 3 rfl))
 |((with_reducible refine Jb ?_);refine Zp 27 _ (.const (I J 9)) 29 g4 0 [] (I J 0) (I J 9) [I J xl,I J xc] (T.out.get 3 rfl) rfl Zlt rfl rfl rfl rfl rfl rfl ?_;intro wd p;have T:=Hh (T.out.put 3 rfl p);clear p;obtain⟨k0,k1,k2,_,_,_⟩:=Zo (T.out.get 3 rfl))
 |((with_reducible refine Zd 64 ?_);refine Zc 29 _ 29 g4 ([I J 9,I J xl,I J xc]) (T.out.get 3 rfl) Yf Zj rfl rfl rfl ?_)
 |((with_reducible refine Zg 8 64 ?_);refine Za 29 _ _ 29 g1 _ ([I J 9,I J xl,I J xc]) (T.out.get 0 rfl) rfl Zj (by simp[Γ]) rfl rfl rfl rfl rfl ?_;intro wd p;have T:=Hh (T.out.put 0 rfl p);clear p))
       exact Ya 8 29 29 g1 ([I J 9,I J xl,I J xc]) rfl (T.out.get 0 rfl) Yf Zj rfl rfl ⟨rfl,T.out.below⟩
      ·rw[if_neg hA]at hz2
       by_cases hB:(q:Int)=tw
       ·rw[if_pos hB,if_neg (show ¬((11:Int)=0)from by decide)]at hz2
        subst hz2;have bB:((q:Int) == tw)=true:=by simpa using hB
        clear hc hB;go_wp2_with(first
 |((with_reducible refine Zd 39 ?_);refine Zw 36 _ g (q*6) ys (HR.out _ T.out.below) Um (by rw[hyl];exact Xt) rfl rfl rfl ?_)
 |((with_reducible refine Zd 14 ?_);refine Zb T.out 36 _ rfl rfl Znp ?_;intro wc g2 tn;have T:=Hh tn;clear tn)
 |((with_reducible refine Zg 14 39 ?_);refine Za 36 _ _ 36 g2 _ (ys) (T.out.get 1 rfl) hyl (by rw[hyl];exact Xt) HY.out.one rfl rfl rfl rfl rfl ?_;intro wd p;have T:=Hh (T.out.put 1 rfl p);clear p)
 |((with_reducible refine Zd 41 ?_);refine Zc 36 _ 36 g2 (ys) (T.out.get 1 rfl) Um (by rw[hyl];exact Xt) rfl rfl rfl ?_)
 |(go_at_call 25;refine(hh _ T.out.below).mono ?_;rintro e we ⟨rfl,bn⟩;have T:=Hh (T.out.call bn);clear bn)
 |((with_reducible refine Zd 15 ?_);refine Zb T.out 67 _ rfl rfl Zkf ?_;intro wf g3 tn;have T:=Hh tn;clear tn)
 |((with_reducible refine Zg 15 42 ?_);refine Za 67 _ _ 67 g3 _ ([Ψ nm,I J xl,I J xc]) (T.out.get 2 rfl) rfl Zat (by simp[Γ]) rfl rfl rfl rfl rfl ?_;intro wd p;have T:=Hh (T.out.put 2 rfl p);clear p;obtain⟨j0,j1,j2,_,_,_⟩:=Zo (T.out.get 2 rfl))
 |((with_reducible refine Zd 16 ?_);refine Zb T.out 29 _ rfl rfl Wu ?_;intro wg g4 tn;have T:=Hh tn;clear tn)
 |((with_reducible refine Zg 16 47 ?_);refine Za 29 _ _ 29 g4 _ ([I J 0,I J xl,I J xc]) (T.out.get 3 rfl) rfl Zj (by simp[Γ]) rfl rfl rfl rfl rfl ?_;intro wd p;have T:=Hh (T.out.put 3 rfl p);clear p;obtain⟨k0,k1,k2,_,_,_⟩:=Zo (T.out.get 3 rfl))
 |((with_reducible refine Jb ?_);refine Zp 27 _ (.const (I J 11)) 29 g4 0 [] (I J 0) (I J 11) [I J xl,I J xc] (T.out.get 3 rfl) rfl Zlt rfl rfl rfl rfl rfl rfl ?_;intro wd p;have T:=Hh (T.out.put 3 rfl p);clear p;obtain⟨k0,k1,k2,_,_,_⟩:=Zo (T.out.get 3 rfl))
 |((with_reducible refine Zd 64 ?_);refine Zc 29 _ 29 g4 ([I J 11,I J xl,I J xc]) (T.out.get 3 rfl) Yf Zj rfl rfl rfl ?_)
 |((with_reducible refine Zg 8 64 ?_);refine Za 29 _ _ 29 g1 _ ([I J 11,I J xl,I J xc]) (T.out.get 0 rfl) rfl Zj (by simp[Γ]) rfl rfl rfl rfl rfl ?_;intro wd p;have T:=Hh (T.out.put 0 rfl p);clear p))
        exact Ya 8 29 29 g1 ([I J 11,I J xl,I J xc]) rfl (T.out.get 0 rfl) Yf Zj rfl rfl ⟨rfl,T.out.below⟩
       ·rw[if_neg hB]at hz2
        have bB:((q:Int) == tw)=false:=by simpa using hB
        obtain⟨f0,f1,f2⟩:=F;unfold faV at hc;dsimp only at hc hz2;clear hB;by_cases h0:f0=0
        ·rw[if_pos h0]at hz2
         have HZ:=Hh hz2;clear hz2;subst h0;go_wp2_with(first
 |((with_reducible refine Zd 39 ?_);refine Zw 36 _ g (q*6) ys (HR.out _ T.out.below) Um (by rw[hyl];exact Xt) rfl rfl rfl ?_)
 |((with_reducible refine Zd 14 ?_);refine Zb T.out 36 _ rfl rfl Znp ?_;intro wc g2 tn;have T:=Hh tn;clear tn)
 |((with_reducible refine Zg 14 39 ?_);refine Za 36 _ _ 36 g2 _ (ys) (T.out.get 1 rfl) hyl (by rw[hyl];exact Xt) HY.out.one rfl rfl rfl rfl rfl ?_;intro wd p;have T:=Hh (T.out.put 1 rfl p);clear p)
 |((with_reducible refine Zd 41 ?_);refine Zc 36 _ 36 g2 (ys) (T.out.get 1 rfl) Um (by rw[hyl];exact Xt) rfl rfl rfl ?_)
 |(go_at_call 25;refine(hh _ T.out.below).mono ?_;rintro e we ⟨rfl,bn⟩;have T:=Hh (T.out.call bn);clear bn)
 |((with_reducible refine Zd 15 ?_);refine Zb T.out 67 _ rfl rfl Zkf ?_;intro wf g3 tn;have T:=Hh tn;clear tn)
 |((with_reducible refine Zg 15 42 ?_);refine Za 67 _ _ 67 g3 _ ([Ψ nm,I J xl,I J xc]) (T.out.get 2 rfl) rfl Zat (by simp[Γ]) rfl rfl rfl rfl rfl ?_;intro wd p;have T:=Hh (T.out.put 2 rfl p);clear p;obtain⟨j0,j1,j2,_,_,_⟩:=Zo (T.out.get 2 rfl))
 |((with_reducible refine Zd 16 ?_);refine Zb T.out 29 _ rfl rfl Wu ?_;intro wg g4 tn;have T:=Hh tn;clear tn)
 |((with_reducible refine Zg 16 47 ?_);refine Za 29 _ _ 29 g4 _ ([I J 0,I J xl,I J xc]) (T.out.get 3 rfl) rfl Zj (by simp[Γ]) rfl rfl rfl rfl rfl ?_;intro wd p;have T:=Hh (T.out.put 3 rfl p);clear p;obtain⟨k0,k1,k2,_,_,_⟩:=Zo (T.out.get 3 rfl))
 |((with_reducible refine Zd 49 ?_);refine Zc 36 _ 36 g2 (ys) (T.out.get 1 rfl) Um (by rw[hyl];exact Xt) rfl rfl rfl ?_)
 |(go_at_call 9;refine(hc _ T.out.below).mono ?_;rintro e wh ⟨rfl,bn⟩;have T:=Hh (T.out.call bn);clear bn)
 |((with_reducible refine Zg 16 50 ?_);refine Za 29 _ _ 29 g4 _ ([I J 0,I J f1,I J f2]) (T.out.get 3 rfl) rfl Zj (by simp[Γ]) rfl rfl rfl rfl rfl ?_;intro wd p;have T:=Hh (T.out.put 3 rfl p);clear p;obtain⟨k0,k1,k2,_,_,_⟩:=Zo (T.out.get 3 rfl))
 |((with_reducible refine Zd 64 ?_);refine Zc 29 _ 29 g4 ([I J 0,I J f1,I J f2]) (T.out.get 3 rfl) Yf Zj rfl rfl rfl ?_)
 |((with_reducible refine Zg 8 64 ?_);refine Za 29 _ _ 29 g1 _ ([I J 0,I J f1,I J f2]) (T.out.get 0 rfl) rfl Zj (by simp[Γ]) rfl rfl rfl rfl rfl ?_;intro wd p;have T:=Hh (T.out.put 0 rfl p);clear p))
         go_roundw
         case rel=>exact⟨q+1,by go_num,by omega,Env.one4 T.out,HZ⟩
         case measure=>simp[intOf];omega
        ·rw[if_neg h0]at hz2
         subst hz2;have hb0:(f0 == 0)=false:=by simpa using h0
         clear h0;go_wp2_with(first
 |((with_reducible refine Zd 39 ?_);refine Zw 36 _ g (q*6) ys (HR.out _ T.out.below) Um (by rw[hyl];exact Xt) rfl rfl rfl ?_)
 |((with_reducible refine Zd 14 ?_);refine Zb T.out 36 _ rfl rfl Znp ?_;intro wc g2 tn;have T:=Hh tn;clear tn)
 |((with_reducible refine Zg 14 39 ?_);refine Za 36 _ _ 36 g2 _ (ys) (T.out.get 1 rfl) hyl (by rw[hyl];exact Xt) HY.out.one rfl rfl rfl rfl rfl ?_;intro wd p;have T:=Hh (T.out.put 1 rfl p);clear p)
 |((with_reducible refine Zd 41 ?_);refine Zc 36 _ 36 g2 (ys) (T.out.get 1 rfl) Um (by rw[hyl];exact Xt) rfl rfl rfl ?_)
 |(go_at_call 25;refine(hh _ T.out.below).mono ?_;rintro e we ⟨rfl,bn⟩;have T:=Hh (T.out.call bn);clear bn)
 |((with_reducible refine Zd 15 ?_);refine Zb T.out 67 _ rfl rfl Zkf ?_;intro wf g3 tn;have T:=Hh tn;clear tn)
 |((with_reducible refine Zg 15 42 ?_);refine Za 67 _ _ 67 g3 _ ([Ψ nm,I J xl,I J xc]) (T.out.get 2 rfl) rfl Zat (by simp[Γ]) rfl rfl rfl rfl rfl ?_;intro wd p;have T:=Hh (T.out.put 2 rfl p);clear p;obtain⟨j0,j1,j2,_,_,_⟩:=Zo (T.out.get 2 rfl))
 |((with_reducible refine Zd 16 ?_);refine Zb T.out 29 _ rfl rfl Wu ?_;intro wg g4 tn;have T:=Hh tn;clear tn)
 |((with_reducible refine Zg 16 47 ?_);refine Za 29 _ _ 29 g4 _ ([I J 0,I J xl,I J xc]) (T.out.get 3 rfl) rfl Zj (by simp[Γ]) rfl rfl rfl rfl rfl ?_;intro wd p;have T:=Hh (T.out.put 3 rfl p);clear p;obtain⟨k0,k1,k2,_,_,_⟩:=Zo (T.out.get 3 rfl))
 |((with_reducible refine Zd 49 ?_);refine Zc 36 _ 36 g2 (ys) (T.out.get 1 rfl) Um (by rw[hyl];exact Xt) rfl rfl rfl ?_)
 |(go_at_call 9;refine(hc _ T.out.below).mono ?_;rintro e wh ⟨rfl,bn⟩;have T:=Hh (T.out.call bn);clear bn)
 |((with_reducible refine Zg 16 50 ?_);refine Za 29 _ _ 29 g4 _ ([I J f0,I J f1,I J f2]) (T.out.get 3 rfl) rfl Zj (by simp[Γ]) rfl rfl rfl rfl rfl ?_;intro wd p;have T:=Hh (T.out.put 3 rfl p);clear p;obtain⟨k0,k1,k2,_,_,_⟩:=Zo (T.out.get 3 rfl))
 |((with_reducible refine Zd 64 ?_);refine Zc 29 _ 29 g4 ([I J f0,I J f1,I J f2]) (T.out.get 3 rfl) Yf Zj rfl rfl rfl ?_)
 |((with_reducible refine Zg 8 64 ?_);refine Za 29 _ _ 29 g1 _ ([I J f0,I J f1,I J f2]) (T.out.get 0 rfl) rfl Zj (by simp[Γ]) rfl rfl rfl rfl rfl ?_;intro wd p;have T:=Hh (T.out.put 0 rfl p);clear p))
         exact Ya 8 29 29 g1 ([I J f0,I J f1,I J f2]) rfl (T.out.get 0 rfl) Yf Zj rfl rfl ⟨rfl,T.out.below⟩
     ·have hz2:=hz.out
      rw[List.drop_of_length_le (by have:=HN.out;omega)]at hz2;have hz2:R=(0,0,0):=hz2;subst hz2;clear hz;go_wp2_with(((with_reducible refine Zg 8 66 ?_);refine Za 29 _ _ 29 g1 _ ([I J 0,I J 0,I J 0]) (T.out.get 0 rfl) rfl Zj (by simp[Γ]) rfl rfl rfl rfl rfl ?_;intro wd p;have T:=Hh (T.out.put 0 rfl p);clear p))
      exact Ya 8 29 29 g1 ([I J 0,I J 0,I J 0]) rfl (T.out.get 0 rfl) Yf Zj rfl rfl ⟨rfl,T.out.below⟩
theorem Zis{N:Nat→Prop}{w:World}:∀{l:List Pl}{xs:List Value},Zs N w (Zde l) xs→∀(k:Nat)(hk:k<l.length),∃ pre ys post,xs=pre++ys++post∧pre.length=k*4∧Zs N w (l[k]'hk).ds ys
 |[],xs,_,k,hk=>by cases hk
 |x::r,xs,h,k,hk=>by
  obtain⟨a,b,rfl,h1,h2⟩:=Zs.split (x:=x.ds) h;cases k with
  |zero=>exact⟨[],a,b,rfl,by simp,h1⟩
  |succ k=>
   obtain⟨pre,ys,post,rfl,hp,hy⟩:=Zis h2 k (by simpa using hk);have hl:a.length=4:=by rw[h1.len];rfl
   exact⟨a++pre,ys,post,by simp,by rw[List.length_append,hp,hl];omega,hy⟩
theorem lPlaces_drop(tw:Int)(l:List Pl)(m:Nat)(h:m<l.length):Zao tw m (l.drop m)=if(Zjx 32 tw m (l[m]'h).line (l[m]'h).col (Zfq (l[m]'h))).1=0 then Zao tw (m+1) (l.drop (m+1))else Zjx 32 tw m (l[m]'h).line (l[m]'h).col (Zfq (l[m]'h)):=by
 rw[List.drop_eq_getElem_cons h];rfl
theorem lHeadPD(x:Pl)(w:World)(N:Nat→Prop)(vs:List Value)(h:Zs N w x.ds vs):Calls Φ 26 #[.agg vs.toArray] w fun e w'=>e=η (.agg ([Ψ x.name,I J x.line,I J x.col]:List Value).toArray)∧Below w.heap.size w w':=by
 obtain⟨nm,pln,pcl,rules⟩:=x;obtain⟨_,rfl,_,rfl,_,rfl,D,k,zs,_,rfl,_,_,_,rfl⟩:=h;exact lHeadP nm pln pcl D _ k w
theorem lListedP(l:List Pl)(hlen:l.length≤1000000)(w:World)(N:Nat→Prop)(v:Value)(hv:Zs N w (.row l.length (Zde l) .nil) [v]) :
  Calls Φ 29 #[v,I J 32,.func (.func 26) #[] #[],.func (.func 13) #[] #[]] w fun e w'=>e=η (faV (Zao (Jn (Ys (l.map Pl.name))) 0 l))∧Below w.heap.size w w':=by
 obtain⟨B,bc,cs,rfl,hn,hw,hd⟩:=hv.inRow;clear hv;obtain⟨n,hn0⟩:∃ n,n=l.length:=⟨_,rfl⟩
 rw[←hn0]at hn hlen ⊢;have HN:=Hh hn0;have HW:=Hh (ζ hw hd);obtain⟨tw,htw⟩:∃ tw,tw=Jn (Ys (l.map Pl.name)):=⟨_,rfl⟩
 have HT:=Hh htw;rw[←htw];obtain⟨R,hR⟩:∃ R,R=Zao tw 0 l:=⟨_,rfl⟩
 rw[←hR];have HV:=Hh hR;clear hw hd hn0 hR htw;have l63:(n:Int)≤1000000:=by omega
 have T:=Hh (Env.start w);go_enter Tryz.func29,Tryz.ntmps29;go_wp2_with(((with_reducible refine Zd 8 ?_);refine Zb T.out 29 _ rfl rfl Wu ?_;intro wa g1 tn;have T:=Hh tn;clear tn))
 go_loopw [9,19] (fun s i wy=>∃(m:Nat)(V:Option Addr)(d:Nat)(xs:List Value),i=I J m∧m≤n∧s=Λ V m d∧xs=Vh ((l.take m).map Pl.name)∧Env w [(g1,29,[I J 0,I J 0,I J 0])] [⟨Λ V m d,9,1,m,xs⟩] [] wy) (fun _ i _=>n - (intOf i).toNat)
 case atStart=>exact⟨0,none,0,[],by go_num,Nat.zero_le _,rfl,rfl,T.out.row1 9 1⟩
 case round=>
  obtain⟨m,V,d,xs,rfl,hm,rfl,hxs0,hT⟩:=hrel;have T:=Hh hT;have HX:=Hh hxs0;clear hT hxs0;by_cases hlt:m<n
  · have hk1:m<l.length:=by rw[←HN.out];exact hlt
    obtain⟨pre,ys,post,hxs,hp,hy⟩:=Zis HW.out.2 m hk1;have hyl:ys.length=4:=by rw[hy.len];rfl
    obtain⟨g,rfl,hg,hcc⟩:=HW.out.1.reads (by rw[hxs];simp;omega);have hR:w.rangeAt g (m*4) ys:=Ut (by rw[hxs]at hcc;exact hcc) hp
    have hnew:Vh ((l.take (m+1)).map Pl.name)=xs++[Ψ (l[m]'hk1).name]:=by
     rw[HX.out,List.take_add_one,List.getElem?_eq_getElem hk1];simp only[Vh,List.map_append,Option.toList_some,List.map_cons,List.map_nil]
    generalize l[m]=x at *;have hh:=fun y (hb:Below w.heap.size w y)=>lHeadPD x y N ys (hy.below hb)
    have HNEW:=Hh hnew;generalize x.name=nm at *;generalize x.line=xl at *;generalize x.col=xc at *;have hfd:=fun(y:World)=>head_field nm xl xc y
    have HR:Hid (∀ y,Below w.heap.size w y→y.rangeAt g (m*4) ys):=Hh fun y hb j v hv=>(World.cell?_of_block (a:=⟨g,m*4+j,none⟩) (hb.block g hg)).trans (hR j v hv)
    have HY:=Hh hy;clear hxs hp hcc hR hk1 hy hnew HX;have lk:(m:Int)<(n:Int):=by omega
    go_wp2_with(first
 |((with_reducible refine Zd 22 ?_);refine Zw 45 _ g (m*4) ys (HR.out _ T.out.below) Zan (by rw[hyl];exact Wc) rfl rfl rfl ?_)
 |((with_reducible refine Zd 11 ?_);refine Zb T.out 45 _ rfl rfl lz_pl ?_;intro wc g2 tn;have T:=Hh tn;clear tn)
 |((with_reducible refine Zg 11 22 ?_);refine Za 45 _ _ 45 g2 _ (ys) (T.out.get 1 rfl) hyl (by rw[hyl];exact Wc) HY.out.one rfl rfl rfl rfl rfl ?_;intro wd p;have T:=Hh (T.out.put 1 rfl p);clear p)
 |((with_reducible refine Zd 25 ?_);refine Zc 45 _ 45 g2 (ys) (T.out.get 1 rfl) Zan (by rw[hyl];exact Wc) rfl rfl rfl ?_)
 |(go_at_call 26;refine(hh _ T.out.below).mono ?_;rintro e we ⟨rfl,bn⟩;have T:=Hh (T.out.call bn);clear bn)
 |(at_builtin;refine Wf (.tmp 23) (.tmp 28) 58 9 1 16 _ lund_strs linfo_str rfl (by decide) (by decide) w.heap.size (Λ V m d) m xs [Ψ nm] ((T.out.call (Zh _ (.cells ([Ψ nm]:List Value).toArray 9))).row _ (List.mem_singleton.2 rfl)) we.heap.size (Zi.made _ _ _) rfl (by simp[Γ]) (by omega) (by have:=T.out.below.size;simp;omega) rfl rfl rfl rfl ?_;intro v9 w9 o9 g9 at9;obtain⟨V9,d9,rfl,_⟩:=Yx o9;have T:=Hh ((T.out.call (Zh _ (.cells ([Ψ nm]:List Value).toArray 9))).push o9 g9 at9);clear o9 g9 at9))
    go_roundw
    case rel=>exact⟨m+1,V9,d9,xs++[Value.string nm],by go_num,by omega,rfl,HNEW.out.symm,Env.one2 T.out⟩
    case measure=>simp[intOf];omega
  · obtain rfl:m=n:=by omega
    have hread:Zbp wr V (Vh (l.map Pl.name)):=by
     obtain⟨V2,d2,e2,_,_,k0⟩:=Yx (T.out.row _ (List.mem_singleton.2 rfl));injection e2 with e2;subst e2;rw[HX.out,List.take_of_length_le (by have:=HN.out;omega)]at k0;exact k0.reads
    have htwice:=Twice_any V d (l.map Pl.name) wr hread (by rw[List.length_map];have:=HN.out;omega);rw[List.length_map,←HN.out,←HT.out]at htwice;have T:=Hh T.out.lnorow;clear hread HX;go_wp2_with(go_at_call 47;refine htwice.mono ?_;rintro e wt ⟨rfl,bn⟩;have T:=Hh (T.out.call bn);clear bn)
    clear htwice;go_loopw [35] (fun i wy=>∃ q:Nat,i=I J q∧q≤m∧Env w [(g1,29,[I J 0,I J 0,I J 0])] [] [] wy∧Hid (R=Zao tw q (l.drop q))) (fun i _=>m - (intOf i).toNat)
    case atStart=>exact⟨0,by go_num,Nat.zero_le _,T.out,Hh (by rw[HV.out];rfl)⟩
    case round=>
     obtain⟨q,rfl,hq,hT,hz⟩:=hrel;have T:=Hh hT;clear hT;by_cases hlt2:q<m
     ·have hk1:q<l.length:=by rw[←HN.out];exact hlt2
      obtain⟨pre,ys,post,hxs,hp,hy⟩:=Zis HW.out.2 q hk1;have hyl:ys.length=4:=by rw[hy.len];rfl
      obtain⟨g,rfl,hg,hcc⟩:=HW.out.1.reads (by rw[hxs];simp;omega);have hR:w.rangeAt g (q*4) ys:=Ut (by rw[hxs]at hcc;exact hcc) hp;have hz2:=hz.out;rw[lPlaces_drop tw l q hk1]at hz2;generalize l[q]=x at *;have hh:=fun y (hb:Below w.heap.size w y)=>lHeadPD x y N ys (hy.below hb)
      have hc:=fun y (hb:Below w.heap.size w y)=>lPlace_any x y N ys (hy.below hb)
      generalize Zfq x=F at *;generalize x.name=nm at *;generalize x.line=xl at *;generalize x.col=xc at *;have HR:Hid (∀ y,Below w.heap.size w y→y.rangeAt g (q*4) ys):=Hh fun y hb j v hv=>(World.cell?_of_block (a:=⟨g,q*4+j,none⟩) (hb.block g hg)).trans (hR j v hv)
      have HY:=Hh hy;unfold Zjx at hz2;clear hxs hp hcc hR hk1 hy hz hlt;have lk:(q:Int)<(m:Int):=by omega
      by_cases hA:(32:Int)≤(q:Int)
      ·rw[if_pos hA,if_neg (show ¬((9:Int)=0)from by decide)]at hz2
       subst hz2;clear hc;go_wp2_with(first
 |((with_reducible refine Zd 39 ?_);refine Zw 45 _ g (q*4) ys (HR.out _ T.out.below) Zan (by rw[hyl];exact Wc) rfl rfl rfl ?_)
 |((with_reducible refine Zd 14 ?_);refine Zb T.out 45 _ rfl rfl lz_pl ?_;intro wc g2 tn;have T:=Hh tn;clear tn)
 |((with_reducible refine Zg 14 39 ?_);refine Za 45 _ _ 45 g2 _ (ys) (T.out.get 1 rfl) hyl (by rw[hyl];exact Wc) HY.out.one rfl rfl rfl rfl rfl ?_;intro wd p;have T:=Hh (T.out.put 1 rfl p);clear p)
 |((with_reducible refine Zd 41 ?_);refine Zc 45 _ 45 g2 (ys) (T.out.get 1 rfl) Zan (by rw[hyl];exact Wc) rfl rfl rfl ?_)
 |(go_at_call 26;refine(hh _ T.out.below).mono ?_;rintro e we ⟨rfl,bn⟩;have T:=Hh (T.out.call bn);clear bn)
 |((with_reducible refine Zd 15 ?_);refine Zb T.out 67 _ rfl rfl Zkf ?_;intro wf g3 tn;have T:=Hh tn;clear tn)
 |((with_reducible refine Zg 15 42 ?_);refine Za 67 _ _ 67 g3 _ ([Ψ nm,I J xl,I J xc]) (T.out.get 2 rfl) rfl Zat (by simp[Γ]) rfl rfl rfl rfl rfl ?_;intro wd p;have T:=Hh (T.out.put 2 rfl p);clear p;obtain⟨j0,j1,j2,_,_,_⟩:=Zo (T.out.get 2 rfl))
 |((with_reducible refine Zd 16 ?_);refine Zb T.out 29 _ rfl rfl Wu ?_;intro wg g4 tn;have T:=Hh tn;clear tn)
 |((with_reducible refine Zg 16 47 ?_);refine Za 29 _ _ 29 g4 _ ([I J 0,I J xl,I J xc]) (T.out.get 3 rfl) rfl Zj (by simp[Γ]) rfl rfl rfl rfl rfl ?_;intro wd p;have T:=Hh (T.out.put 3 rfl p);clear p;obtain⟨k0,k1,k2,_,_,_⟩:=Zo (T.out.get 3 rfl))
 |((with_reducible refine Jb ?_);refine Zp 27 _ (.const (I J 9)) 29 g4 0 [] (I J 0) (I J 9) [I J xl,I J xc] (T.out.get 3 rfl) rfl Zlt rfl rfl rfl rfl rfl rfl ?_;intro wd p;have T:=Hh (T.out.put 3 rfl p);clear p;obtain⟨k0,k1,k2,_,_,_⟩:=Zo (T.out.get 3 rfl))
 |((with_reducible refine Zd 64 ?_);refine Zc 29 _ 29 g4 ([I J 9,I J xl,I J xc]) (T.out.get 3 rfl) Yf Zj rfl rfl rfl ?_)
 |((with_reducible refine Zg 8 64 ?_);refine Za 29 _ _ 29 g1 _ ([I J 9,I J xl,I J xc]) (T.out.get 0 rfl) rfl Zj (by simp[Γ]) rfl rfl rfl rfl rfl ?_;intro wd p;have T:=Hh (T.out.put 0 rfl p);clear p))
       exact Ya 8 29 29 g1 ([I J 9,I J xl,I J xc]) rfl (T.out.get 0 rfl) Yf Zj rfl rfl ⟨rfl,T.out.below⟩
      ·rw[if_neg hA]at hz2
       by_cases hB:(q:Int)=tw
       ·rw[if_pos hB,if_neg (show ¬((11:Int)=0)from by decide)]at hz2
        subst hz2;have bB:((q:Int) == tw)=true:=by simpa using hB
        clear hc hB;go_wp2_with(first
 |((with_reducible refine Zd 39 ?_);refine Zw 45 _ g (q*4) ys (HR.out _ T.out.below) Zan (by rw[hyl];exact Wc) rfl rfl rfl ?_)
 |((with_reducible refine Zd 14 ?_);refine Zb T.out 45 _ rfl rfl lz_pl ?_;intro wc g2 tn;have T:=Hh tn;clear tn)
 |((with_reducible refine Zg 14 39 ?_);refine Za 45 _ _ 45 g2 _ (ys) (T.out.get 1 rfl) hyl (by rw[hyl];exact Wc) HY.out.one rfl rfl rfl rfl rfl ?_;intro wd p;have T:=Hh (T.out.put 1 rfl p);clear p)
 |((with_reducible refine Zd 41 ?_);refine Zc 45 _ 45 g2 (ys) (T.out.get 1 rfl) Zan (by rw[hyl];exact Wc) rfl rfl rfl ?_)
 |(go_at_call 26;refine(hh _ T.out.below).mono ?_;rintro e we ⟨rfl,bn⟩;have T:=Hh (T.out.call bn);clear bn)
 |((with_reducible refine Zd 15 ?_);refine Zb T.out 67 _ rfl rfl Zkf ?_;intro wf g3 tn;have T:=Hh tn;clear tn)
 |((with_reducible refine Zg 15 42 ?_);refine Za 67 _ _ 67 g3 _ ([Ψ nm,I J xl,I J xc]) (T.out.get 2 rfl) rfl Zat (by simp[Γ]) rfl rfl rfl rfl rfl ?_;intro wd p;have T:=Hh (T.out.put 2 rfl p);clear p;obtain⟨j0,j1,j2,_,_,_⟩:=Zo (T.out.get 2 rfl))
 |((with_reducible refine Zd 16 ?_);refine Zb T.out 29 _ rfl rfl Wu ?_;intro wg g4 tn;have T:=Hh tn;clear tn)
 |((with_reducible refine Zg 16 47 ?_);refine Za 29 _ _ 29 g4 _ ([I J 0,I J xl,I J xc]) (T.out.get 3 rfl) rfl Zj (by simp[Γ]) rfl rfl rfl rfl rfl ?_;intro wd p;have T:=Hh (T.out.put 3 rfl p);clear p;obtain⟨k0,k1,k2,_,_,_⟩:=Zo (T.out.get 3 rfl))
 |((with_reducible refine Jb ?_);refine Zp 27 _ (.const (I J 11)) 29 g4 0 [] (I J 0) (I J 11) [I J xl,I J xc] (T.out.get 3 rfl) rfl Zlt rfl rfl rfl rfl rfl rfl ?_;intro wd p;have T:=Hh (T.out.put 3 rfl p);clear p;obtain⟨k0,k1,k2,_,_,_⟩:=Zo (T.out.get 3 rfl))
 |((with_reducible refine Zd 64 ?_);refine Zc 29 _ 29 g4 ([I J 11,I J xl,I J xc]) (T.out.get 3 rfl) Yf Zj rfl rfl rfl ?_)
 |((with_reducible refine Zg 8 64 ?_);refine Za 29 _ _ 29 g1 _ ([I J 11,I J xl,I J xc]) (T.out.get 0 rfl) rfl Zj (by simp[Γ]) rfl rfl rfl rfl rfl ?_;intro wd p;have T:=Hh (T.out.put 0 rfl p);clear p))
        exact Ya 8 29 29 g1 ([I J 11,I J xl,I J xc]) rfl (T.out.get 0 rfl) Yf Zj rfl rfl ⟨rfl,T.out.below⟩
       ·rw[if_neg hB]at hz2
        have bB:((q:Int) == tw)=false:=by simpa using hB
        obtain⟨f0,f1,f2⟩:=F;unfold faV at hc;dsimp only at hc hz2;clear hB;by_cases h0:f0=0
        ·rw[if_pos h0]at hz2
         have HZ:=Hh hz2;clear hz2;subst h0;go_wp2_with(first
 |((with_reducible refine Zd 39 ?_);refine Zw 45 _ g (q*4) ys (HR.out _ T.out.below) Zan (by rw[hyl];exact Wc) rfl rfl rfl ?_)
 |((with_reducible refine Zd 14 ?_);refine Zb T.out 45 _ rfl rfl lz_pl ?_;intro wc g2 tn;have T:=Hh tn;clear tn)
 |((with_reducible refine Zg 14 39 ?_);refine Za 45 _ _ 45 g2 _ (ys) (T.out.get 1 rfl) hyl (by rw[hyl];exact Wc) HY.out.one rfl rfl rfl rfl rfl ?_;intro wd p;have T:=Hh (T.out.put 1 rfl p);clear p)
 |((with_reducible refine Zd 41 ?_);refine Zc 45 _ 45 g2 (ys) (T.out.get 1 rfl) Zan (by rw[hyl];exact Wc) rfl rfl rfl ?_)
 |(go_at_call 26;refine(hh _ T.out.below).mono ?_;rintro e we ⟨rfl,bn⟩;have T:=Hh (T.out.call bn);clear bn)
 |((with_reducible refine Zd 15 ?_);refine Zb T.out 67 _ rfl rfl Zkf ?_;intro wf g3 tn;have T:=Hh tn;clear tn)
 |((with_reducible refine Zg 15 42 ?_);refine Za 67 _ _ 67 g3 _ ([Ψ nm,I J xl,I J xc]) (T.out.get 2 rfl) rfl Zat (by simp[Γ]) rfl rfl rfl rfl rfl ?_;intro wd p;have T:=Hh (T.out.put 2 rfl p);clear p;obtain⟨j0,j1,j2,_,_,_⟩:=Zo (T.out.get 2 rfl))
 |((with_reducible refine Zd 16 ?_);refine Zb T.out 29 _ rfl rfl Wu ?_;intro wg g4 tn;have T:=Hh tn;clear tn)
 |((with_reducible refine Zg 16 47 ?_);refine Za 29 _ _ 29 g4 _ ([I J 0,I J xl,I J xc]) (T.out.get 3 rfl) rfl Zj (by simp[Γ]) rfl rfl rfl rfl rfl ?_;intro wd p;have T:=Hh (T.out.put 3 rfl p);clear p;obtain⟨k0,k1,k2,_,_,_⟩:=Zo (T.out.get 3 rfl))
 |((with_reducible refine Zd 49 ?_);refine Zc 45 _ 45 g2 (ys) (T.out.get 1 rfl) Zan (by rw[hyl];exact Wc) rfl rfl rfl ?_)
 |(go_at_call 13;refine(hc _ T.out.below).mono ?_;rintro e wh ⟨rfl,bn⟩;have T:=Hh (T.out.call bn);clear bn)
 |((with_reducible refine Zg 16 50 ?_);refine Za 29 _ _ 29 g4 _ ([I J 0,I J f1,I J f2]) (T.out.get 3 rfl) rfl Zj (by simp[Γ]) rfl rfl rfl rfl rfl ?_;intro wd p;have T:=Hh (T.out.put 3 rfl p);clear p;obtain⟨k0,k1,k2,_,_,_⟩:=Zo (T.out.get 3 rfl))
 |((with_reducible refine Zd 64 ?_);refine Zc 29 _ 29 g4 ([I J 0,I J f1,I J f2]) (T.out.get 3 rfl) Yf Zj rfl rfl rfl ?_)
 |((with_reducible refine Zg 8 64 ?_);refine Za 29 _ _ 29 g1 _ ([I J 0,I J f1,I J f2]) (T.out.get 0 rfl) rfl Zj (by simp[Γ]) rfl rfl rfl rfl rfl ?_;intro wd p;have T:=Hh (T.out.put 0 rfl p);clear p))
         go_roundw
         case rel=>exact⟨q+1,by go_num,by omega,Env.one4 T.out,HZ⟩
         case measure=>simp[intOf];omega
        ·rw[if_neg h0]at hz2
         subst hz2;have hb0:(f0 == 0)=false:=by simpa using h0
         clear h0;go_wp2_with(first
 |((with_reducible refine Zd 39 ?_);refine Zw 45 _ g (q*4) ys (HR.out _ T.out.below) Zan (by rw[hyl];exact Wc) rfl rfl rfl ?_)
 |((with_reducible refine Zd 14 ?_);refine Zb T.out 45 _ rfl rfl lz_pl ?_;intro wc g2 tn;have T:=Hh tn;clear tn)
 |((with_reducible refine Zg 14 39 ?_);refine Za 45 _ _ 45 g2 _ (ys) (T.out.get 1 rfl) hyl (by rw[hyl];exact Wc) HY.out.one rfl rfl rfl rfl rfl ?_;intro wd p;have T:=Hh (T.out.put 1 rfl p);clear p)
 |((with_reducible refine Zd 41 ?_);refine Zc 45 _ 45 g2 (ys) (T.out.get 1 rfl) Zan (by rw[hyl];exact Wc) rfl rfl rfl ?_)
 |(go_at_call 26;refine(hh _ T.out.below).mono ?_;rintro e we ⟨rfl,bn⟩;have T:=Hh (T.out.call bn);clear bn)
 |((with_reducible refine Zd 15 ?_);refine Zb T.out 67 _ rfl rfl Zkf ?_;intro wf g3 tn;have T:=Hh tn;clear tn)
 |((with_reducible refine Zg 15 42 ?_);refine Za 67 _ _ 67 g3 _ ([Ψ nm,I J xl,I J xc]) (T.out.get 2 rfl) rfl Zat (by simp[Γ]) rfl rfl rfl rfl rfl ?_;intro wd p;have T:=Hh (T.out.put 2 rfl p);clear p;obtain⟨j0,j1,j2,_,_,_⟩:=Zo (T.out.get 2 rfl))
 |((with_reducible refine Zd 16 ?_);refine Zb T.out 29 _ rfl rfl Wu ?_;intro wg g4 tn;have T:=Hh tn;clear tn)
 |((with_reducible refine Zg 16 47 ?_);refine Za 29 _ _ 29 g4 _ ([I J 0,I J xl,I J xc]) (T.out.get 3 rfl) rfl Zj (by simp[Γ]) rfl rfl rfl rfl rfl ?_;intro wd p;have T:=Hh (T.out.put 3 rfl p);clear p;obtain⟨k0,k1,k2,_,_,_⟩:=Zo (T.out.get 3 rfl))
 |((with_reducible refine Zd 49 ?_);refine Zc 45 _ 45 g2 (ys) (T.out.get 1 rfl) Zan (by rw[hyl];exact Wc) rfl rfl rfl ?_)
 |(go_at_call 13;refine(hc _ T.out.below).mono ?_;rintro e wh ⟨rfl,bn⟩;have T:=Hh (T.out.call bn);clear bn)
 |((with_reducible refine Zg 16 50 ?_);refine Za 29 _ _ 29 g4 _ ([I J f0,I J f1,I J f2]) (T.out.get 3 rfl) rfl Zj (by simp[Γ]) rfl rfl rfl rfl rfl ?_;intro wd p;have T:=Hh (T.out.put 3 rfl p);clear p;obtain⟨k0,k1,k2,_,_,_⟩:=Zo (T.out.get 3 rfl))
 |((with_reducible refine Zd 64 ?_);refine Zc 29 _ 29 g4 ([I J f0,I J f1,I J f2]) (T.out.get 3 rfl) Yf Zj rfl rfl rfl ?_)
 |((with_reducible refine Zg 8 64 ?_);refine Za 29 _ _ 29 g1 _ ([I J f0,I J f1,I J f2]) (T.out.get 0 rfl) rfl Zj (by simp[Γ]) rfl rfl rfl rfl rfl ?_;intro wd p;have T:=Hh (T.out.put 0 rfl p);clear p))
         exact Ya 8 29 29 g1 ([I J f0,I J f1,I J f2]) rfl (T.out.get 0 rfl) Yf Zj rfl rfl ⟨rfl,T.out.below⟩
     ·have hz2:=hz.out
      rw[List.drop_of_length_le (by have:=HN.out;omega)]at hz2;have hz2:R=(0,0,0):=hz2;subst hz2;clear hz;go_wp2_with(((with_reducible refine Zg 8 66 ?_);refine Za 29 _ _ 29 g1 _ ([I J 0,I J 0,I J 0]) (T.out.get 0 rfl) rfl Zj (by simp[Γ]) rfl rfl rfl rfl rfl ?_;intro wd p;have T:=Hh (T.out.put 0 rfl p);clear p))
      exact Ya 8 29 29 g1 ([I J 0,I J 0,I J 0]) rfl (T.out.get 0 rfl) Yf Zj rfl rfl ⟨rfl,T.out.below⟩
end Go.Proofs.YtbdecchpleiepaaGreat
