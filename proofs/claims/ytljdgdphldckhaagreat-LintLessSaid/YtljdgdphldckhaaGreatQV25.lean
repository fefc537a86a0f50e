/-
  No conditions but those that each theorem names.
-/
import Derived.Test.YtljdgdphldckhaaGreatQV24
set_option maxRecDepth 20000
set_option maxHeartbeats 12800000
namespace Go.Proofs.YtljdgdphldckhaaGreat
open Go Go.RowKit
set_option linter.unusedVariables false
set_option linter.unusedSimpArgs false
theorem lund_strs:Tryz.prog.underlying 75=some (.slice 9):=by kernel_rfl
theorem linfo_str:(Tryz.prog.info? 9).map (fun i=>(i.zero,i.size,i.bytes))=some (some (.string ⟨#[]⟩),1,16):=by kernel_rfl
theorem Zhi:(Tryz.prog.info? 27).map (·.size)=some 1:=by kernel_rfl
theorem head_field(nm:ByteArray)(l c:Int)(w:World):(Instr.field 136 (.agg #[.string nm,.int .i64 l,.int .i64 c]) 0).run Tryz.prog w=.ok (.string nm) w:=by kernel_rfl
theorem Env.lnorow{w x:World}{bs:List Bk}{rs:List Rw}{ts:List (Ds×List Value)}(h:Env w bs rs ts x):Env w bs [] [] x:=
 ⟨h.at_,h.lo,h.nod,(fun r hr=>by cases hr),(fun r hr=>by cases hr),List.Pairwise.nil,(fun u hu=>by cases hu),h.below⟩
theorem Env.one2{w x:World}{a b:Bk}{rs:List Rw}(h:Env w [a,b] rs [] x):Env w [a] rs [] x:=Env.less (bs:=[a]) (cs:=[b]) (ts:=[]) (us:=[]) h
theorem Env.one4{w x:World}{a b c d:Bk}{rs:List Rw}(h:Env w [a,b,c,d] rs [] x):Env w [a] rs [] x:=Env.less (bs:=[a]) (cs:=[b,c,d]) (ts:=[]) (us:=[]) h
theorem lrow_ca:(Tryz.prog.underlying 35).map TypeDesc.isRow=some true:=by kernel_rfl
theorem Wg:(Tryz.prog.info? 35).map (·.size)=some 6:=by kernel_rfl
theorem lz_ca:(Tryz.prog.info? 35).map (fun i=>i.zero.map Value.cells)=some (some ([.string ⟨#[]⟩,.int .i64 0,.int .i64 0,.int .i64 0,.int .i64 0,.slice none 0 0]:List Value).toArray):=by kernel_rfl
theorem lrow_pl:(Tryz.prog.underlying 38).map TypeDesc.isRow=some true:=by kernel_rfl
theorem Wf:(Tryz.prog.info? 38).map (·.size)=some 4:=by kernel_rfl
theorem lz_pl:(Tryz.prog.info? 38).map (fun i=>i.zero.map Value.cells)=some (some ([.string ⟨#[]⟩,.int .i64 0,.int .i64 0,.slice none 0 0]:List Value).toArray):=by kernel_rfl
theorem casDs_at{N:Nat→Prop}{w:World}:∀{l:List Ca}{xs:List Value},Deep N w (casDs l) xs→∀(k:Nat)(hk:k<l.length),∃ pre ys post,xs=pre++ys++post∧pre.length=k*6∧Deep N w (l[k]'hk).ds ys
 |[],xs,_,k,hk=>by cases hk
 |x::r,xs,h,k,hk=>by
  obtain⟨a,b,rfl,h1,h2⟩:=Deep.split (x:=x.ds) h;cases k with
  |zero=>exact⟨[],a,b,rfl,by simp,h1⟩
  |succ k=>
   obtain⟨pre,ys,post,rfl,hp,hy⟩:=casDs_at h2 k (by simpa using hk);have hl:a.length=6:=by rw[h1.len];rfl
   exact⟨a++pre,ys,post,by simp,by rw[List.length_append,hp,hl];omega,hy⟩
theorem lCards_drop(tw:Int)(l:List Ca)(m:Nat)(h:m<l.length):Uy tw m (l.drop m)=if(Zbj 128 tw m (l[m]'h).line (l[m]'h).col (lCard (l[m]'h))).1=0 then Uy tw (m+1) (l.drop (m+1))else Zbj 128 tw m (l[m]'h).line (l[m]'h).col (lCard (l[m]'h)):=by
 rw[List.drop_eq_getElem_cons h];rfl
theorem lHeadCD(x:Ca)(w:World)(N:Nat→Prop)(vs:List Value)(h:Deep N w x.ds vs):Calls Tryz.prog 86 #[.agg vs.toArray] w fun e w'=>e=.returned (.agg ([.string x.name,.int .i64 x.line,.int .i64 x.col]:List Value).toArray)∧Below w.heap.size w w':=by
 obtain⟨nm,cost,pow,cln,ccl,rules⟩:=x;obtain⟨_,rfl,_,rfl,_,rfl,_,rfl,_,rfl,D,k,zs,_,rfl,_,_,_,rfl⟩:=h;exact lHeadC nm cost pow cln ccl D _ k w
theorem lListedC(l:List Ca)(hlen:l.length≤1000000)(w:World)(N:Nat→Prop)(v:Value)(hv:Deep N w (.row l.length (casDs l) .nil) [v]) :
  Calls Tryz.prog 89 #[v,.int .i64 128,.func (.func 86) #[] #[],.func (.func 34) #[] #[]] w fun e w'=>e=.returned (faV (Uy (Wt (Yd (l.map Ca.name))) 0 l))∧Below w.heap.size w w':=by
 obtain⟨B,bc,cs,rfl,hn,hw,hd⟩:=hv.inRow;clear hv;obtain⟨n,hn0⟩:∃ n,n=l.length:=⟨_,rfl⟩
 rw[←hn0]at hn hlen ⊢;have HN:=Hh hn0;have HW:=Hh (And.intro hw hd);obtain⟨tw,htw⟩:∃ tw,tw=Wt (Yd (l.map Ca.name)):=⟨_,rfl⟩
 have HT:=Hh htw;rw[←htw];obtain⟨R,hR⟩:∃ R,R=Uy tw 0 l:=⟨_,rfl⟩
 rw[←hR];have HV:=Hh hR;clear hw hd hn0 hR htw;have l63:(n:Int)≤1000000:=by omega
 have T:=Hh (Env.start w);go_enter Tryz.func89,Tryz.ntmps89;go_wp2_with(((with_reducible refine at_ld 8 ?_);refine wpList_allocE T.out 29 _ rfl rfl Uv ?_;intro wa g1 tn;have T:=Hh tn;clear tn))
 go_loopw [9,19] (fun s i wy=>∃(m:Nat)(V:Option Addr)(d:Nat)(xs:List Value),i=.int .i64 m∧m≤n∧s=.slice V m d∧xs=Xt ((l.take m).map Ca.name)∧Env w [(g1,29,[.int .i64 0,.int .i64 0,.int .i64 0])] [⟨.slice V m d,9,1,m,xs⟩] [] wy) (fun _ i _=>n - (intOf i).toNat)
 case atStart=>exact⟨0,none,0,[],by go_num,Nat.zero_le _,rfl,rfl,T.out.row1 9 1⟩
 case round=>
  obtain⟨m,V,d,xs,rfl,hm,rfl,hxs0,hT⟩:=hrel;have T:=Hh hT;have HX:=Hh hxs0;clear hT hxs0;by_cases hlt:m<n
  · have hk1:m<l.length:=by rw[←HN.out];exact hlt
    obtain⟨pre,ys,post,hxs,hp,hy⟩:=casDs_at HW.out.2 m hk1;have hyl:ys.length=6:=by rw[hy.len];rfl
    obtain⟨g,rfl,hg,hcc⟩:=HW.out.1.reads (by rw[hxs];simp;omega);have hR:w.rangeAt g (m*6) ys:=Zau (by rw[hxs]at hcc;exact hcc) hp
    have hnew:Xt ((l.take (m+1)).map Ca.name)=xs++[.string (l[m]'hk1).name]:=by
     rw[HX.out,List.take_add_one,List.getElem?_eq_getElem hk1];simp only[Xt,List.map_append,Option.toList_some,List.map_cons,List.map_nil]
    generalize l[m]=x at *;have hh:=fun y (hb:Below w.heap.size w y)=>lHeadCD x y N ys (hy.below hb)
    have HNEW:=Hh hnew;generalize x.name=nm at *;generalize x.line=xl at *;generalize x.col=xc at *;have hfd:=fun(y:World)=>head_field nm xl xc y
    have HR:Hid (∀ y,Below w.heap.size w y→y.rangeAt g (m*6) ys):=Hh fun y hb j v hv=>(World.cell?_of_block (a:=⟨g,m*6+j,none⟩) (hb.block g hg)).trans (hR j v hv)
    have HY:=Hh hy;clear hxs hp hcc hR hk1 hy hnew HX;have lk:(m:Int)<(n:Int):=by omega
    go_wp2_with(first
 |((with_reducible refine at_ld 22 ?_);refine Yb 35 _ g (m*6) ys (HR.out _ T.out.below) lrow_ca (by rw[hyl];exact Wg) rfl rfl rfl ?_)
 |((with_reducible refine at_ld 11 ?_);refine wpList_allocE T.out 35 _ rfl rfl lz_ca ?_;intro wc g2 tn;have T:=Hh tn;clear tn)
 |((with_reducible refine at_st 11 22 ?_);refine wpList_storeW 35 _ _ 35 g2 _ (ys) (T.out.get 1 rfl) hyl (by rw[hyl];exact Wg) HY.out.one rfl rfl rfl rfl rfl ?_;intro wd p;have T:=Hh (T.out.put 1 rfl p);clear p)
 |((with_reducible refine at_ld 25 ?_);refine wpList_loadW 35 _ 35 g2 (ys) (T.out.get 1 rfl) lrow_ca (by rw[hyl];exact Wg) rfl rfl rfl ?_)
 |(go_at_call 86;refine(hh _ T.out.below).mono ?_;rintro e we ⟨rfl,bn⟩;have T:=Hh (T.out.call bn);clear bn)
 |(at_builtin;refine wpList_pushL (.tmp 23) (.tmp 28) 75 9 1 16 _ lund_strs linfo_str rfl (by decide) (by decide) w.heap.size (.slice V m d) m xs [.string nm] ((T.out.call (Za _ (.cells ([.string nm]:List Value).toArray 9))).row _ (List.mem_singleton.2 rfl)) we.heap.size (Zb.made _ _ _) rfl (by simp[Value.oneCell']) (by omega) (by have:=T.out.below.size;simp;omega) rfl rfl rfl rfl ?_;intro v9 w9 o9 g9 at9;obtain⟨V9,d9,rfl,_⟩:=own_form o9;have T:=Hh ((T.out.call (Za _ (.cells ([.string nm]:List Value).toArray 9))).push o9 g9 at9);clear o9 g9 at9))
    go_roundw
    case rel=>exact⟨m+1,V9,d9,xs++[Value.string nm],by go_num,by omega,rfl,HNEW.out.symm,Env.one2 T.out⟩
    case measure=>simp[intOf];omega
  · obtain rfl:m=n:=by omega
    have hread:Un wr V (Xt (l.map Ca.name)):=by
     obtain⟨V2,d2,e2,_,_,k0⟩:=own_form (T.out.row _ (List.mem_singleton.2 rfl));injection e2 with e2;subst e2;rw[HX.out,List.take_of_length_le (by have:=HN.out;omega)]at k0;exact k0.reads
    have htwice:=Twice_any V d (l.map Ca.name) wr hread (by rw[List.length_map];have:=HN.out;omega);rw[List.length_map,←HN.out,←HT.out]at htwice;have T:=Hh T.out.lnorow;clear hread HX;go_wp2_with(go_at_call 139;refine htwice.mono ?_;rintro e wt ⟨rfl,bn⟩;have T:=Hh (T.out.call bn);clear bn)
    clear htwice;go_loopw [35] (fun i wy=>∃ q:Nat,i=.int .i64 q∧q≤m∧Env w [(g1,29,[.int .i64 0,.int .i64 0,.int .i64 0])] [] [] wy∧Hid (R=Uy tw q (l.drop q))) (fun i _=>m - (intOf i).toNat)
    case atStart=>exact⟨0,by go_num,Nat.zero_le _,T.out,Hh (by rw[HV.out];rfl)⟩
    case round=>
     obtain⟨q,rfl,hq,hT,hz⟩:=hrel;have T:=Hh hT;clear hT;by_cases hlt2:q<m
     ·have hk1:q<l.length:=by rw[←HN.out];exact hlt2
      obtain⟨pre,ys,post,hxs,hp,hy⟩:=casDs_at HW.out.2 q hk1;have hyl:ys.length=6:=by rw[hy.len];rfl
      obtain⟨g,rfl,hg,hcc⟩:=HW.out.1.reads (by rw[hxs];simp;omega);have hR:w.rangeAt g (q*6) ys:=Zau (by rw[hxs]at hcc;exact hcc) hp;have hz2:=hz.out;rw[lCards_drop tw l q hk1]at hz2;generalize l[q]=x at *;have hh:=fun y (hb:Below w.heap.size w y)=>lHeadCD x y N ys (hy.below hb)
      have hc:=fun y (hb:Below w.heap.size w y)=>lCard_any x y N ys (hy.below hb)
      generalize lCard x=F at *;generalize x.name=nm at *;generalize x.line=xl at *;generalize x.col=xc at *;have HR:Hid (∀ y,Below w.heap.size w y→y.rangeAt g (q*6) ys):=Hh fun y hb j v hv=>(World.cell?_of_block (a:=⟨g,q*6+j,none⟩) (hb.block g hg)).trans (hR j v hv)
      have HY:=Hh hy;unfold Zbj at hz2;clear hxs hp hcc hR hk1 hy hz hlt;have lk:(q:Int)<(m:Int):=by omega
      by_cases hA:(128:Int)≤(q:Int)
      ·rw[if_pos hA,if_neg (show ¬((9:Int)=0)from by decide)]at hz2
       subst hz2;clear hc;go_wp2_with(first
 |((with_reducible refine at_ld 39 ?_);refine Yb 35 _ g (q*6) ys (HR.out _ T.out.below) lrow_ca (by rw[hyl];exact Wg) rfl rfl rfl ?_)
 |((with_reducible refine at_ld 14 ?_);refine wpList_allocE T.out 35 _ rfl rfl lz_ca ?_;intro wc g2 tn;have T:=Hh tn;clear tn)
 |((with_reducible refine at_st 14 39 ?_);refine wpList_storeW 35 _ _ 35 g2 _ (ys) (T.out.get 1 rfl) hyl (by rw[hyl];exact Wg) HY.out.one rfl rfl rfl rfl rfl ?_;intro wd p;have T:=Hh (T.out.put 1 rfl p);clear p)
 |((with_reducible refine at_ld 41 ?_);refine wpList_loadW 35 _ 35 g2 (ys) (T.out.get 1 rfl) lrow_ca (by rw[hyl];exact Wg) rfl rfl rfl ?_)
 |(go_at_call 86;refine(hh _ T.out.below).mono ?_;rintro e we ⟨rfl,bn⟩;have T:=Hh (T.out.call bn);clear bn)
 |((with_reducible refine at_ld 15 ?_);refine wpList_allocE T.out 136 _ rfl rfl Zgd ?_;intro wf g3 tn;have T:=Hh tn;clear tn)
 |((with_reducible refine at_st 15 42 ?_);refine wpList_storeW 136 _ _ 136 g3 _ ([.string nm,.int .i64 xl,.int .i64 xc]) (T.out.get 2 rfl) rfl Vv (by simp[Value.oneCell']) rfl rfl rfl rfl rfl ?_;intro wd p;have T:=Hh (T.out.put 2 rfl p);clear p;obtain⟨j0,j1,j2,_,_,_⟩:=Zl (T.out.get 2 rfl))
 |((with_reducible refine at_ld 16 ?_);refine wpList_allocE T.out 29 _ rfl rfl Uv ?_;intro wg g4 tn;have T:=Hh tn;clear tn)
 |((with_reducible refine at_st 16 47 ?_);refine wpList_storeW 29 _ _ 29 g4 _ ([.int .i64 0,.int .i64 xl,.int .i64 xc]) (T.out.get 3 rfl) rfl Zf (by simp[Value.oneCell']) rfl rfl rfl rfl rfl ?_;intro wd p;have T:=Hh (T.out.put 3 rfl p);clear p;obtain⟨k0,k1,k2,_,_,_⟩:=Zl (T.out.get 3 rfl))
 |((with_reducible refine Xo ?_);refine wpList_store1 27 _ (.const (.int .i64 9)) 29 g4 0 [] (.int .i64 0) (.int .i64 9) [.int .i64 xl,.int .i64 xc] (T.out.get 3 rfl) rfl Zhi rfl rfl rfl rfl rfl rfl ?_;intro wd p;have T:=Hh (T.out.put 3 rfl p);clear p;obtain⟨k0,k1,k2,_,_,_⟩:=Zl (T.out.get 3 rfl))
 |((with_reducible refine at_ld 64 ?_);refine wpList_loadW 29 _ 29 g4 ([.int .i64 9,.int .i64 xl,.int .i64 xc]) (T.out.get 3 rfl) Zw Zf rfl rfl rfl ?_)
 |((with_reducible refine at_st 8 64 ?_);refine wpList_storeW 29 _ _ 29 g1 _ ([.int .i64 9,.int .i64 xl,.int .i64 xc]) (T.out.get 0 rfl) rfl Zf (by simp[Value.oneCell']) rfl rfl rfl rfl rfl ?_;intro wd p;have T:=Hh (T.out.put 0 rfl p);clear p))
       exact Zj 8 29 29 g1 ([.int .i64 9,.int .i64 xl,.int .i64 xc]) rfl (T.out.get 0 rfl) Zw Zf rfl rfl ⟨rfl,T.out.below⟩
      ·rw[if_neg hA]at hz2
       by_cases hB:(q:Int)=tw
       ·rw[if_pos hB,if_neg (show ¬((11:Int)=0)from by decide)]at hz2
        subst hz2;have bB:((q:Int) == tw)=true:=by simpa using hB
        clear hc hB;go_wp2_with(first
 |((with_reducible refine at_ld 39 ?_);refine Yb 35 _ g (q*6) ys (HR.out _ T.out.below) lrow_ca (by rw[hyl];exact Wg) rfl rfl rfl ?_)
 |((with_reducible refine at_ld 14 ?_);refine wpList_allocE T.out 35 _ rfl rfl lz_ca ?_;intro wc g2 tn;have T:=Hh tn;clear tn)
 |((with_reducible refine at_st 14 39 ?_);refine wpList_storeW 35 _ _ 35 g2 _ (ys) (T.out.get 1 rfl) hyl (by rw[hyl];exact Wg) HY.out.one rfl rfl rfl rfl rfl ?_;intro wd p;have T:=Hh (T.out.put 1 rfl p);clear p)
 |((with_reducible refine at_ld 41 ?_);refine wpList_loadW 35 _ 35 g2 (ys) (T.out.get 1 rfl) lrow_ca (by rw[hyl];exact Wg) rfl rfl rfl ?_)
 |(go_at_call 86;refine(hh _ T.out.below).mono ?_;rintro e we ⟨rfl,bn⟩;have T:=Hh (T.out.call bn);clear bn)
 |((with_reducible refine at_ld 15 ?_);refine wpList_allocE T.out 136 _ rfl rfl Zgd ?_;intro wf g3 tn;have T:=Hh tn;clear tn)
 |((with_reducible refine at_st 15 42 ?_);refine wpList_storeW 136 _ _ 136 g3 _ ([.string nm,.int .i64 xl,.int .i64 xc]) (T.out.get 2 rfl) rfl Vv (by simp[Value.oneCell']) rfl rfl rfl rfl rfl ?_;intro wd p;have T:=Hh (T.out.put 2 rfl p);clear p;obtain⟨j0,j1,j2,_,_,_⟩:=Zl (T.out.get 2 rfl))
 |((with_reducible refine at_ld 16 ?_);refine wpList_allocE T.out 29 _ rfl rfl Uv ?_;intro wg g4 tn;have T:=Hh tn;clear tn)
 |((with_reducible refine at_st 16 47 ?_);refine wpList_storeW 29 _ _ 29 g4 _ ([.int .i64 0,.int .i64 xl,.int .i64 xc]) (T.out.get 3 rfl) rfl Zf (by simp[Value.oneCell']) rfl rfl rfl rfl rfl ?_;intro wd p;have T:=Hh (T.out.put 3 rfl p);clear p;obtain⟨k0,k1,k2,_,_,_⟩:=Zl (T.out.get 3 rfl))
 |((with_reducible refine Xo ?_);refine wpList_store1 27 _ (.const (.int .i64 11)) 29 g4 0 [] (.int .i64 0) (.int .i64 11) [.int .i64 xl,.int .i64 xc] (T.out.get 3 rfl) rfl Zhi rfl rfl rfl rfl rfl rfl ?_;intro wd p;have T:=Hh (T.out.put 3 rfl p);clear p;obtain⟨k0,k1,k2,_,_,_⟩:=Zl (T.out.get 3 rfl))
 |((with_reducible refine at_ld 64 ?_);refine wpList_loadW 29 _ 29 g4 ([.int .i64 11,.int .i64 xl,.int .i64 xc]) (T.out.get 3 rfl) Zw Zf rfl rfl rfl ?_)
 |((with_reducible refine at_st 8 64 ?_);refine wpList_storeW 29 _ _ 29 g1 _ ([.int .i64 11,.int .i64 xl,.int .i64 xc]) (T.out.get 0 rfl) rfl Zf (by simp[Value.oneCell']) rfl rfl rfl rfl rfl ?_;intro wd p;have T:=Hh (T.out.put 0 rfl p);clear p))
        exact Zj 8 29 29 g1 ([.int .i64 11,.int .i64 xl,.int .i64 xc]) rfl (T.out.get 0 rfl) Zw Zf rfl rfl ⟨rfl,T.out.below⟩
       ·rw[if_neg hB]at hz2
        have bB:((q:Int) == tw)=false:=by simpa using hB
        obtain⟨f0,f1,f2⟩:=F;unfold faV at hc;dsimp only at hc hz2;clear hB;by_cases h0:f0=0
        ·rw[if_pos h0]at hz2
         have HZ:=Hh hz2;clear hz2;subst h0;go_wp2_with(first
 |((with_reducible refine at_ld 39 ?_);refine Yb 35 _ g (q*6) ys (HR.out _ T.out.below) lrow_ca (by rw[hyl];exact Wg) rfl rfl rfl ?_)
 |((with_reducible refine at_ld 14 ?_);refine wpList_allocE T.out 35 _ rfl rfl lz_ca ?_;intro wc g2 tn;have T:=Hh tn;clear tn)
 |((with_reducible refine at_st 14 39 ?_);refine wpList_storeW 35 _ _ 35 g2 _ (ys) (T.out.get 1 rfl) hyl (by rw[hyl];exact Wg) HY.out.one rfl rfl rfl rfl rfl ?_;intro wd p;have T:=Hh (T.out.put 1 rfl p);clear p)
 |((with_reducible refine at_ld 41 ?_);refine wpList_loadW 35 _ 35 g2 (ys) (T.out.get 1 rfl) lrow_ca (by rw[hyl];exact Wg) rfl rfl rfl ?_)
 |(go_at_call 86;refine(hh _ T.out.below).mono ?_;rintro e we ⟨rfl,bn⟩;have T:=Hh (T.out.call bn);clear bn)
 |((with_reducible refine at_ld 15 ?_);refine wpList_allocE T.out 136 _ rfl rfl Zgd ?_;intro wf g3 tn;have T:=Hh tn;clear tn)
 |((with_reducible refine at_st 15 42 ?_);refine wpList_storeW 136 _ _ 136 g3 _ ([.string nm,.int .i64 xl,.int .i64 xc]) (T.out.get 2 rfl) rfl Vv (by simp[Value.oneCell']) rfl rfl rfl rfl rfl ?_;intro wd p;have T:=Hh (T.out.put 2 rfl p);clear p;obtain⟨j0,j1,j2,_,_,_⟩:=Zl (T.out.get 2 rfl))
 |((with_reducible refine at_ld 16 ?_);refine wpList_allocE T.out 29 _ rfl rfl Uv ?_;intro wg g4 tn;have T:=Hh tn;clear tn)
 |((with_reducible refine at_st 16 47 ?_);refine wpList_storeW 29 _ _ 29 g4 _ ([.int .i64 0,.int .i64 xl,.int .i64 xc]) (T.out.get 3 rfl) rfl Zf (by simp[Value.oneCell']) rfl rfl rfl rfl rfl ?_;intro wd p;have T:=Hh (T.out.put 3 rfl p);clear p;obtain⟨k0,k1,k2,_,_,_⟩:=Zl (T.out.get 3 rfl))
 |((with_reducible refine at_ld 49 ?_);refine wpList_loadW 35 _ 35 g2 (ys) (T.out.get 1 rfl) lrow_ca (by rw[hyl];exact Wg) rfl rfl rfl ?_)
 |(go_at_call 34;refine(hc _ T.out.below).mono ?_;rintro e wh ⟨rfl,bn⟩;have T:=Hh (T.out.call bn);clear bn)
 |((with_reducible refine at_st 16 50 ?_);refine wpList_storeW 29 _ _ 29 g4 _ ([.int .i64 0,.int .i64 f1,.int .i64 f2]) (T.out.get 3 rfl) rfl Zf (by simp[Value.oneCell']) rfl rfl rfl rfl rfl ?_;intro wd p;have T:=Hh (T.out.put 3 rfl p);clear p;obtain⟨k0,k1,k2,_,_,_⟩:=Zl (T.out.get 3 rfl))
 |((with_reducible refine at_ld 64 ?_);refine wpList_loadW 29 _ 29 g4 ([.int .i64 0,.int .i64 f1,.int .i64 f2]) (T.out.get 3 rfl) Zw Zf rfl rfl rfl ?_)
 |((with_reducible refine at_st 8 64 ?_);refine wpList_storeW 29 _ _ 29 g1 _ ([.int .i64 0,.int .i64 f1,.int .i64 f2]) (T.out.get 0 rfl) rfl Zf (by simp[Value.oneCell']) rfl rfl rfl rfl rfl ?_;intro wd p;have T:=Hh (T.out.put 0 rfl p);clear p))
         go_roundw
         case rel=>exact⟨q+1,by go_num,by omega,Env.one4 T.out,HZ⟩
         case measure=>simp[intOf];omega
        ·rw[if_neg h0]at hz2
         subst hz2;have hb0:(f0 == 0)=false:=by simpa using h0
         clear h0;go_wp2_with(first
 |((with_reducible refine at_ld 39 ?_);refine Yb 35 _ g (q*6) ys (HR.out _ T.out.below) lrow_ca (by rw[hyl];exact Wg) rfl rfl rfl ?_)
 |((with_reducible refine at_ld 14 ?_);refine wpList_allocE T.out 35 _ rfl rfl lz_ca ?_;intro wc g2 tn;have T:=Hh tn;clear tn)
 |((with_reducible refine at_st 14 39 ?_);refine wpList_storeW 35 _ _ 35 g2 _ (ys) (T.out.get 1 rfl) hyl (by rw[hyl];exact Wg) HY.out.one rfl rfl rfl rfl rfl ?_;intro wd p;have T:=Hh (T.out.put 1 rfl p);clear p)
 |((with_reducible refine at_ld 41 ?_);refine wpList_loadW 35 _ 35 g2 (ys) (T.out.get 1 rfl) lrow_ca (by rw[hyl];exact Wg) rfl rfl rfl ?_)
 |(go_at_call 86;refine(hh _ T.out.below).mono ?_;rintro e we ⟨rfl,bn⟩;have T:=Hh (T.out.call bn);clear bn)
 |((with_reducible refine at_ld 15 ?_);refine wpList_allocE T.out 136 _ rfl rfl Zgd ?_;intro wf g3 tn;have T:=Hh tn;clear tn)
 |((with_reducible refine at_st 15 42 ?_);refine wpList_storeW 136 _ _ 136 g3 _ ([.string nm,.int .i64 xl,.int .i64 xc]) (T.out.get 2 rfl) rfl Vv (by simp[Value.oneCell']) rfl rfl rfl rfl rfl ?_;intro wd p;have T:=Hh (T.out.put 2 rfl p);clear p;obtain⟨j0,j1,j2,_,_,_⟩:=Zl (T.out.get 2 rfl))
 |((with_reducible refine at_ld 16 ?_);refine wpList_allocE T.out 29 _ rfl rfl Uv ?_;intro wg g4 tn;have T:=Hh tn;clear tn)
 |((with_reducible refine at_st 16 47 ?_);refine wpList_storeW 29 _ _ 29 g4 _ ([.int .i64 0,.int .i64 xl,.int .i64 xc]) (T.out.get 3 rfl) rfl Zf (by simp[Value.oneCell']) rfl rfl rfl rfl rfl ?_;intro wd p;have T:=Hh (T.out.put 3 rfl p);clear p;obtain⟨k0,k1,k2,_,_,_⟩:=Zl (T.out.get 3 rfl))
 |((with_reducible refine at_ld 49 ?_);refine wpList_loadW 35 _ 35 g2 (ys) (T.out.get 1 rfl) lrow_ca (by rw[hyl];exact Wg) rfl rfl rfl ?_)
 |(go_at_call 34;refine(hc _ T.out.below).mono ?_;rintro e wh ⟨rfl,bn⟩;have T:=Hh (T.out.call bn);clear bn)
 |((with_reducible refine at_st 16 50 ?_);refine wpList_storeW 29 _ _ 29 g4 _ ([.int .i64 f0,.int .i64 f1,.int .i64 f2]) (T.out.get 3 rfl) rfl Zf (by simp[Value.oneCell']) rfl rfl rfl rfl rfl ?_;intro wd p;have T:=Hh (T.out.put 3 rfl p);clear p;obtain⟨k0,k1,k2,_,_,_⟩:=Zl (T.out.get 3 rfl))
 |((with_reducible refine at_ld 64 ?_);refine wpList_loadW 29 _ 29 g4 ([.int .i64 f0,.int .i64 f1,.int .i64 f2]) (T.out.get 3 rfl) Zw Zf rfl rfl rfl ?_)
 |((with_reducible refine at_st 8 64 ?_);refine wpList_storeW 29 _ _ 29 g1 _ ([.int .i64 f0,.int .i64 f1,.int .i64 f2]) (T.out.get 0 rfl) rfl Zf (by simp[Value.oneCell']) rfl rfl rfl rfl rfl ?_;intro wd p;have T:=Hh (T.out.put 0 rfl p);clear p))
         exact Zj 8 29 29 g1 ([.int .i64 f0,.int .i64 f1,.int .i64 f2]) rfl (T.out.get 0 rfl) Zw Zf rfl rfl ⟨rfl,T.out.below⟩
     ·have hz2:=hz.out
      rw[List.drop_of_length_le (by have:=HN.out;omega)]at hz2;have hz2:R=(0,0,0):=hz2;subst hz2;clear hz;go_wp2_with(((with_reducible refine at_st 8 66 ?_);refine wpList_storeW 29 _ _ 29 g1 _ ([.int .i64 0,.int .i64 0,.int .i64 0]) (T.out.get 0 rfl) rfl Zf (by simp[Value.oneCell']) rfl rfl rfl rfl rfl ?_;intro wd p;have T:=Hh (T.out.put 0 rfl p);clear p))
      exact Zj 8 29 29 g1 ([.int .i64 0,.int .i64 0,.int .i64 0]) rfl (T.out.get 0 rfl) Zw Zf rfl rfl ⟨rfl,T.out.below⟩
theorem plsDs_at{N:Nat→Prop}{w:World}:∀{l:List Pl}{xs:List Value},Deep N w (plsDs l) xs→∀(k:Nat)(hk:k<l.length),∃ pre ys post,xs=pre++ys++post∧pre.length=k*4∧Deep N w (l[k]'hk).ds ys
 |[],xs,_,k,hk=>by cases hk
 |x::r,xs,h,k,hk=>by
  obtain⟨a,b,rfl,h1,h2⟩:=Deep.split (x:=x.ds) h;cases k with
  |zero=>exact⟨[],a,b,rfl,by simp,h1⟩
  |succ k=>
   obtain⟨pre,ys,post,rfl,hp,hy⟩:=plsDs_at h2 k (by simpa using hk);have hl:a.length=4:=by rw[h1.len];rfl
   exact⟨a++pre,ys,post,by simp,by rw[List.length_append,hp,hl];omega,hy⟩
theorem lPlaces_drop(tw:Int)(l:List Pl)(m:Nat)(h:m<l.length):Vl tw m (l.drop m)=if(Zbj 32 tw m (l[m]'h).line (l[m]'h).col (Jj (l[m]'h))).1=0 then Vl tw (m+1) (l.drop (m+1))else Zbj 32 tw m (l[m]'h).line (l[m]'h).col (Jj (l[m]'h)):=by
 rw[List.drop_eq_getElem_cons h];rfl
theorem lHeadPD(x:Pl)(w:World)(N:Nat→Prop)(vs:List Value)(h:Deep N w x.ds vs):Calls Tryz.prog 87 #[.agg vs.toArray] w fun e w'=>e=.returned (.agg ([.string x.name,.int .i64 x.line,.int .i64 x.col]:List Value).toArray)∧Below w.heap.size w w':=by
 obtain⟨nm,pln,pcl,rules⟩:=x;obtain⟨_,rfl,_,rfl,_,rfl,D,k,zs,_,rfl,_,_,_,rfl⟩:=h;exact lHeadP nm pln pcl D _ k w
theorem lListedP(l:List Pl)(hlen:l.length≤1000000)(w:World)(N:Nat→Prop)(v:Value)(hv:Deep N w (.row l.length (plsDs l) .nil) [v]) :
  Calls Tryz.prog 90 #[v,.int .i64 32,.func (.func 87) #[] #[],.func (.func 38) #[] #[]] w fun e w'=>e=.returned (faV (Vl (Wt (Yd (l.map Pl.name))) 0 l))∧Below w.heap.size w w':=by
 obtain⟨B,bc,cs,rfl,hn,hw,hd⟩:=hv.inRow;clear hv;obtain⟨n,hn0⟩:∃ n,n=l.length:=⟨_,rfl⟩
 rw[←hn0]at hn hlen ⊢;have HN:=Hh hn0;have HW:=Hh (And.intro hw hd);obtain⟨tw,htw⟩:∃ tw,tw=Wt (Yd (l.map Pl.name)):=⟨_,rfl⟩
 have HT:=Hh htw;rw[←htw];obtain⟨R,hR⟩:∃ R,R=Vl tw 0 l:=⟨_,rfl⟩
 rw[←hR];have HV:=Hh hR;clear hw hd hn0 hR htw;have l63:(n:Int)≤1000000:=by omega
 have T:=Hh (Env.start w);go_enter Tryz.func90,Tryz.ntmps90;go_wp2_with(((with_reducible refine at_ld 8 ?_);refine wpList_allocE T.out 29 _ rfl rfl Uv ?_;intro wa g1 tn;have T:=Hh tn;clear tn))
 go_loopw [9,19] (fun s i wy=>∃(m:Nat)(V:Option Addr)(d:Nat)(xs:List Value),i=.int .i64 m∧m≤n∧s=.slice V m d∧xs=Xt ((l.take m).map Pl.name)∧Env w [(g1,29,[.int .i64 0,.int .i64 0,.int .i64 0])] [⟨.slice V m d,9,1,m,xs⟩] [] wy) (fun _ i _=>n - (intOf i).toNat)
 case atStart=>exact⟨0,none,0,[],by go_num,Nat.zero_le _,rfl,rfl,T.out.row1 9 1⟩
 case round=>
  obtain⟨m,V,d,xs,rfl,hm,rfl,hxs0,hT⟩:=hrel;have T:=Hh hT;have HX:=Hh hxs0;clear hT hxs0;by_cases hlt:m<n
  · have hk1:m<l.length:=by rw[←HN.out];exact hlt
    obtain⟨pre,ys,post,hxs,hp,hy⟩:=plsDs_at HW.out.2 m hk1;have hyl:ys.length=4:=by rw[hy.len];rfl
    obtain⟨g,rfl,hg,hcc⟩:=HW.out.1.reads (by rw[hxs];simp;omega);have hR:w.rangeAt g (m*4) ys:=Zau (by rw[hxs]at hcc;exact hcc) hp
    have hnew:Xt ((l.take (m+1)).map Pl.name)=xs++[.string (l[m]'hk1).name]:=by
     rw[HX.out,List.take_add_one,List.getElem?_eq_getElem hk1];simp only[Xt,List.map_append,Option.toList_some,List.map_cons,List.map_nil]
    generalize l[m]=x at *;have hh:=fun y (hb:Below w.heap.size w y)=>lHeadPD x y N ys (hy.below hb)
    have HNEW:=Hh hnew;generalize x.name=nm at *;generalize x.line=xl at *;generalize x.col=xc at *;have hfd:=fun(y:World)=>head_field nm xl xc y
    have HR:Hid (∀ y,Below w.heap.size w y→y.rangeAt g (m*4) ys):=Hh fun y hb j v hv=>(World.cell?_of_block (a:=⟨g,m*4+j,none⟩) (hb.block g hg)).trans (hR j v hv)
    have HY:=Hh hy;clear hxs hp hcc hR hk1 hy hnew HX;have lk:(m:Int)<(n:Int):=by omega
    go_wp2_with(first
 |((with_reducible refine at_ld 22 ?_);refine Yb 38 _ g (m*4) ys (HR.out _ T.out.below) lrow_pl (by rw[hyl];exact Wf) rfl rfl rfl ?_)
 |((with_reducible refine at_ld 11 ?_);refine wpList_allocE T.out 38 _ rfl rfl lz_pl ?_;intro wc g2 tn;have T:=Hh tn;clear tn)
 |((with_reducible refine at_st 11 22 ?_);refine wpList_storeW 38 _ _ 38 g2 _ (ys) (T.out.get 1 rfl) hyl (by rw[hyl];exact Wf) HY.out.one rfl rfl rfl rfl rfl ?_;intro wd p;have T:=Hh (T.out.put 1 rfl p);clear p)
 |((with_reducible refine at_ld 25 ?_);refine wpList_loadW 38 _ 38 g2 (ys) (T.out.get 1 rfl) lrow_pl (by rw[hyl];exact Wf) rfl rfl rfl ?_)
 |(go_at_call 87;refine(hh _ T.out.below).mono ?_;rintro e we ⟨rfl,bn⟩;have T:=Hh (T.out.call bn);clear bn)
 |(at_builtin;refine wpList_pushL (.tmp 23) (.tmp 28) 75 9 1 16 _ lund_strs linfo_str rfl (by decide) (by decide) w.heap.size (.slice V m d) m xs [.string nm] ((T.out.call (Za _ (.cells ([.string nm]:List Value).toArray 9))).row _ (List.mem_singleton.2 rfl)) we.heap.size (Zb.made _ _ _) rfl (by simp[Value.oneCell']) (by omega) (by have:=T.out.below.size;simp;omega) rfl rfl rfl rfl ?_;intro v9 w9 o9 g9 at9;obtain⟨V9,d9,rfl,_⟩:=own_form o9;have T:=Hh ((T.out.call (Za _ (.cells ([.string nm]:List Value).toArray 9))).push o9 g9 at9);clear o9 g9 at9))
    go_roundw
    case rel=>exact⟨m+1,V9,d9,xs++[Value.string nm],by go_num,by omega,rfl,HNEW.out.symm,Env.one2 T.out⟩
    case measure=>simp[intOf];omega
  · obtain rfl:m=n:=by omega
    have hread:Un wr V (Xt (l.map Pl.name)):=by
     obtain⟨V2,d2,e2,_,_,k0⟩:=own_form (T.out.row _ (List.mem_singleton.2 rfl));injection e2 with e2;subst e2;rw[HX.out,List.take_of_length_le (by have:=HN.out;omega)]at k0;exact k0.reads
    have htwice:=Twice_any V d (l.map Pl.name) wr hread (by rw[List.length_map];have:=HN.out;omega);rw[List.length_map,←HN.out,←HT.out]at htwice;have T:=Hh T.out.lnorow;clear hread HX;go_wp2_with(go_at_call 139;refine htwice.mono ?_;rintro e wt ⟨rfl,bn⟩;have T:=Hh (T.out.call bn);clear bn)
    clear htwice;go_loopw [35] (fun i wy=>∃ q:Nat,i=.int .i64 q∧q≤m∧Env w [(g1,29,[.int .i64 0,.int .i64 0,.int .i64 0])] [] [] wy∧Hid (R=Vl tw q (l.drop q))) (fun i _=>m - (intOf i).toNat)
    case atStart=>exact⟨0,by go_num,Nat.zero_le _,T.out,Hh (by rw[HV.out];rfl)⟩
    case round=>
     obtain⟨q,rfl,hq,hT,hz⟩:=hrel;have T:=Hh hT;clear hT;by_cases hlt2:q<m
     ·have hk1:q<l.length:=by rw[←HN.out];exact hlt2
      obtain⟨pre,ys,post,hxs,hp,hy⟩:=plsDs_at HW.out.2 q hk1;have hyl:ys.length=4:=by rw[hy.len];rfl
      obtain⟨g,rfl,hg,hcc⟩:=HW.out.1.reads (by rw[hxs];simp;omega);have hR:w.rangeAt g (q*4) ys:=Zau (by rw[hxs]at hcc;exact hcc) hp;have hz2:=hz.out;rw[lPlaces_drop tw l q hk1]at hz2;generalize l[q]=x at *;have hh:=fun y (hb:Below w.heap.size w y)=>lHeadPD x y N ys (hy.below hb)
      have hc:=fun y (hb:Below w.heap.size w y)=>lPlace_any x y N ys (hy.below hb)
      generalize Jj x=F at *;generalize x.name=nm at *;generalize x.line=xl at *;generalize x.col=xc at *;have HR:Hid (∀ y,Below w.heap.size w y→y.rangeAt g (q*4) ys):=Hh fun y hb j v hv=>(World.cell?_of_block (a:=⟨g,q*4+j,none⟩) (hb.block g hg)).trans (hR j v hv)
      have HY:=Hh hy;unfold Zbj at hz2;clear hxs hp hcc hR hk1 hy hz hlt;have lk:(q:Int)<(m:Int):=by omega
      by_cases hA:(32:Int)≤(q:Int)
      ·rw[if_pos hA,if_neg (show ¬((9:Int)=0)from by decide)]at hz2
       subst hz2;clear hc;go_wp2_with(first
 |((with_reducible refine at_ld 39 ?_);refine Yb 38 _ g (q*4) ys (HR.out _ T.out.below) lrow_pl (by rw[hyl];exact Wf) rfl rfl rfl ?_)
 |((with_reducible refine at_ld 14 ?_);refine wpList_allocE T.out 38 _ rfl rfl lz_pl ?_;intro wc g2 tn;have T:=Hh tn;clear tn)
 |((with_reducible refine at_st 14 39 ?_);refine wpList_storeW 38 _ _ 38 g2 _ (ys) (T.out.get 1 rfl) hyl (by rw[hyl];exact Wf) HY.out.one rfl rfl rfl rfl rfl ?_;intro wd p;have T:=Hh (T.out.put 1 rfl p);clear p)
 |((with_reducible refine at_ld 41 ?_);refine wpList_loadW 38 _ 38 g2 (ys) (T.out.get 1 rfl) lrow_pl (by rw[hyl];exact Wf) rfl rfl rfl ?_)
 |(go_at_call 87;refine(hh _ T.out.below).mono ?_;rintro e we ⟨rfl,bn⟩;have T:=Hh (T.out.call bn);clear bn)
 |((with_reducible refine at_ld 15 ?_);refine wpList_allocE T.out 136 _ rfl rfl Zgd ?_;intro wf g3 tn;have T:=Hh tn;clear tn)
 |((with_reducible refine at_st 15 42 ?_);refine wpList_storeW 136 _ _ 136 g3 _ ([.string nm,.int .i64 xl,.int .i64 xc]) (T.out.get 2 rfl) rfl Vv (by simp[Value.oneCell']) rfl rfl rfl rfl rfl ?_;intro wd p;have T:=Hh (T.out.put 2 rfl p);clear p;obtain⟨j0,j1,j2,_,_,_⟩:=Zl (T.out.get 2 rfl))
 |((with_reducible refine at_ld 16 ?_);refine wpList_allocE T.out 29 _ rfl rfl Uv ?_;intro wg g4 tn;have T:=Hh tn;clear tn)
 |((with_reducible refine at_st 16 47 ?_);refine wpList_storeW 29 _ _ 29 g4 _ ([.int .i64 0,.int .i64 xl,.int .i64 xc]) (T.out.get 3 rfl) rfl Zf (by simp[Value.oneCell']) rfl rfl rfl rfl rfl ?_;intro wd p;have T:=Hh (T.out.put 3 rfl p);clear p;obtain⟨k0,k1,k2,_,_,_⟩:=Zl (T.out.get 3 rfl))
 |((with_reducible refine Xo ?_);refine wpList_store1 27 _ (.const (.int .i64 9)) 29 g4 0 [] (.int .i64 0) (.int .i64 9) [.int .i64 xl,.int .i64 xc] (T.out.get 3 rfl) rfl Zhi rfl rfl rfl rfl rfl rfl ?_;intro wd p;have T:=Hh (T.out.put 3 rfl p);clear p;obtain⟨k0,k1,k2,_,_,_⟩:=Zl (T.out.get 3 rfl))
 |((with_reducible refine at_ld 64 ?_);refine wpList_loadW 29 _ 29 g4 ([.int .i64 9,.int .i64 xl,.int .i64 xc]) (T.out.get 3 rfl) Zw Zf rfl rfl rfl ?_)
 |((with_reducible refine at_st 8 64 ?_);refine wpList_storeW 29 _ _ 29 g1 _ ([.int .i64 9,.int .i64 xl,.int .i64 xc]) (T.out.get 0 rfl) rfl Zf (by simp[Value.oneCell']) rfl rfl rfl rfl rfl ?_;intro wd p;have T:=Hh (T.out.put 0 rfl p);clear p))
       exact Zj 8 29 29 g1 ([.int .i64 9,.int .i64 xl,.int .i64 xc]) rfl (T.out.get 0 rfl) Zw Zf rfl rfl ⟨rfl,T.out.below⟩
      ·rw[if_neg hA]at hz2
       by_cases hB:(q:Int)=tw
       ·rw[if_pos hB,if_neg (show ¬((11:Int)=0)from by decide)]at hz2
        subst hz2;have bB:((q:Int) == tw)=true:=by simpa using hB
        clear hc hB;go_wp2_with(first
 |((with_reducible refine at_ld 39 ?_);refine Yb 38 _ g (q*4) ys (HR.out _ T.out.below) lrow_pl (by rw[hyl];exact Wf) rfl rfl rfl ?_)
 |((with_reducible refine at_ld 14 ?_);refine wpList_allocE T.out 38 _ rfl rfl lz_pl ?_;intro wc g2 tn;have T:=Hh tn;clear tn)
 |((with_reducible refine at_st 14 39 ?_);refine wpList_storeW 38 _ _ 38 g2 _ (ys) (T.out.get 1 rfl) hyl (by rw[hyl];exact Wf) HY.out.one rfl rfl rfl rfl rfl ?_;intro wd p;have T:=Hh (T.out.put 1 rfl p);clear p)
 |((with_reducible refine at_ld 41 ?_);refine wpList_loadW 38 _ 38 g2 (ys) (T.out.get 1 rfl) lrow_pl (by rw[hyl];exact Wf) rfl rfl rfl ?_)
 |(go_at_call 87;refine(hh _ T.out.below).mono ?_;rintro e we ⟨rfl,bn⟩;have T:=Hh (T.out.call bn);clear bn)
 |((with_reducible refine at_ld 15 ?_);refine wpList_allocE T.out 136 _ rfl rfl Zgd ?_;intro wf g3 tn;have T:=Hh tn;clear tn)
 |((with_reducible refine at_st 15 42 ?_);refine wpList_storeW 136 _ _ 136 g3 _ ([.string nm,.int .i64 xl,.int .i64 xc]) (T.out.get 2 rfl) rfl Vv (by simp[Value.oneCell']) rfl rfl rfl rfl rfl ?_;intro wd p;have T:=Hh (T.out.put 2 rfl p);clear p;obtain⟨j0,j1,j2,_,_,_⟩:=Zl (T.out.get 2 rfl))
 |((with_reducible refine at_ld 16 ?_);refine wpList_allocE T.out 29 _ rfl rfl Uv ?_;intro wg g4 tn;have T:=Hh tn;clear tn)
 |((with_reducible refine at_st 16 47 ?_);refine wpList_storeW 29 _ _ 29 g4 _ ([.int .i64 0,.int .i64 xl,.int .i64 xc]) (T.out.get 3 rfl) rfl Zf (by simp[Value.oneCell']) rfl rfl rfl rfl rfl ?_;intro wd p;have T:=Hh (T.out.put 3 rfl p);clear p;obtain⟨k0,k1,k2,_,_,_⟩:=Zl (T.out.get 3 rfl))
 |((with_reducible refine Xo ?_);refine wpList_store1 27 _ (.const (.int .i64 11)) 29 g4 0 [] (.int .i64 0) (.int .i64 11) [.int .i64 xl,.int .i64 xc] (T.out.get 3 rfl) rfl Zhi rfl rfl rfl rfl rfl rfl ?_;intro wd p;have T:=Hh (T.out.put 3 rfl p);clear p;obtain⟨k0,k1,k2,_,_,_⟩:=Zl (T.out.get 3 rfl))
 |((with_reducible refine at_ld 64 ?_);refine wpList_loadW 29 _ 29 g4 ([.int .i64 11,.int .i64 xl,.int .i64 xc]) (T.out.get 3 rfl) Zw Zf rfl rfl rfl ?_)
 |((with_reducible refine at_st 8 64 ?_);refine wpList_storeW 29 _ _ 29 g1 _ ([.int .i64 11,.int .i64 xl,.int .i64 xc]) (T.out.get 0 rfl) rfl Zf (by simp[Value.oneCell']) rfl rfl rfl rfl rfl ?_;intro wd p;have T:=Hh (T.out.put 0 rfl p);clear p))
        exact Zj 8 29 29 g1 ([.int .i64 11,.int .i64 xl,.int .i64 xc]) rfl (T.out.get 0 rfl) Zw Zf rfl rfl ⟨rfl,T.out.below⟩
       ·rw[if_neg hB]at hz2
        have bB:((q:Int) == tw)=false:=by simpa using hB
        obtain⟨f0,f1,f2⟩:=F;unfold faV at hc;dsimp only at hc hz2;clear hB;by_cases h0:f0=0
        ·rw[if_pos h0]at hz2
         have HZ:=Hh hz2;clear hz2;subst h0;go_wp2_with(first
 |((with_reducible refine at_ld 39 ?_);refine Yb 38 _ g (q*4) ys (HR.out _ T.out.below) lrow_pl (by rw[hyl];exact Wf) rfl rfl rfl ?_)
 |((with_reducible refine at_ld 14 ?_);refine wpList_allocE T.out 38 _ rfl rfl lz_pl ?_;intro wc g2 tn;have T:=Hh tn;clear tn)
 |((with_reducible refine at_st 14 39 ?_);refine wpList_storeW 38 _ _ 38 g2 _ (ys) (T.out.get 1 rfl) hyl (by rw[hyl];exact Wf) HY.out.one rfl rfl rfl rfl rfl ?_;intro wd p;have T:=Hh (T.out.put 1 rfl p);clear p)
 |((with_reducible refine at_ld 41 ?_);refine wpList_loadW 38 _ 38 g2 (ys) (T.out.get 1 rfl) lrow_pl (by rw[hyl];exact Wf) rfl rfl rfl ?_)
 |(go_at_call 87;refine(hh _ T.out.below).mono ?_;rintro e we ⟨rfl,bn⟩;have T:=Hh (T.out.call bn);clear bn)
 |((with_reducible refine at_ld 15 ?_);refine wpList_allocE T.out 136 _ rfl rfl Zgd ?_;intro wf g3 tn;have T:=Hh tn;clear tn)
 |((with_reducible refine at_st 15 42 ?_);refine wpList_storeW 136 _ _ 136 g3 _ ([.string nm,.int .i64 xl,.int .i64 xc]) (T.out.get 2 rfl) rfl Vv (by simp[Value.oneCell']) rfl rfl rfl rfl rfl ?_;intro wd p;have T:=Hh (T.out.put 2 rfl p);clear p;obtain⟨j0,j1,j2,_,_,_⟩:=Zl (T.out.get 2 rfl))
 |((with_reducible refine at_ld 16 ?_);refine wpList_allocE T.out 29 _ rfl rfl Uv ?_;intro wg g4 tn;have T:=Hh tn;clear tn)
 |((with_reducible refine at_st 16 47 ?_);refine wpList_storeW 29 _ _ 29 g4 _ ([.int .i64 0,.int .i64 xl,.int .i64 xc]) (T.out.get 3 rfl) rfl Zf (by simp[Value.oneCell']) rfl rfl rfl rfl rfl ?_;intro wd p;have T:=Hh (T.out.put 3 rfl p);clear p;obtain⟨k0,k1,k2,_,_,_⟩:=Zl (T.out.get 3 rfl))
 |((with_reducible refine at_ld 49 ?_);refine wpList_loadW 38 _ 38 g2 (ys) (T.out.get 1 rfl) lrow_pl (by rw[hyl];exact Wf) rfl rfl rfl ?_)
 |(go_at_call 38;refine(hc _ T.out.below).mono ?_;rintro e wh ⟨rfl,bn⟩;have T:=Hh (T.out.call bn);clear bn)
 |((with_reducible refine at_st 16 50 ?_);refine wpList_storeW 29 _ _ 29 g4 _ ([.int .i64 0,.int .i64 f1,.int .i64 f2]) (T.out.get 3 rfl) rfl Zf (by simp[Value.oneCell']) rfl rfl rfl rfl rfl ?_;intro wd p;have T:=Hh (T.out.put 3 rfl p);clear p;obtain⟨k0,k1,k2,_,_,_⟩:=Zl (T.out.get 3 rfl))
 |((with_reducible refine at_ld 64 ?_);refine wpList_loadW 29 _ 29 g4 ([.int .i64 0,.int .i64 f1,.int .i64 f2]) (T.out.get 3 rfl) Zw Zf rfl rfl rfl ?_)
 |((with_reducible refine at_st 8 64 ?_);refine wpList_storeW 29 _ _ 29 g1 _ ([.int .i64 0,.int .i64 f1,.int .i64 f2]) (T.out.get 0 rfl) rfl Zf (by simp[Value.oneCell']) rfl rfl rfl rfl rfl ?_;intro wd p;have T:=Hh (T.out.put 0 rfl p);clear p))
         go_roundw
         case rel=>exact⟨q+1,by go_num,by omega,Env.one4 T.out,HZ⟩
         case measure=>simp[intOf];omega
        ·rw[if_neg h0]at hz2
         subst hz2;have hb0:(f0 == 0)=false:=by simpa using h0
         clear h0;go_wp2_with(first
 |((with_reducible refine at_ld 39 ?_);refine Yb 38 _ g (q*4) ys (HR.out _ T.out.below) lrow_pl (by rw[hyl];exact Wf) rfl rfl rfl ?_)
 |((with_reducible refine at_ld 14 ?_);refine wpList_allocE T.out 38 _ rfl rfl lz_pl ?_;intro wc g2 tn;have T:=Hh tn;clear tn)
 |((with_reducible refine at_st 14 39 ?_);refine wpList_storeW 38 _ _ 38 g2 _ (ys) (T.out.get 1 rfl) hyl (by rw[hyl];exact Wf) HY.out.one rfl rfl rfl rfl rfl ?_;intro wd p;have T:=Hh (T.out.put 1 rfl p);clear p)
 |((with_reducible refine at_ld 41 ?_);refine wpList_loadW 38 _ 38 g2 (ys) (T.out.get 1 rfl) lrow_pl (by rw[hyl];exact Wf) rfl rfl rfl ?_)
 |(go_at_call 87;refine(hh _ T.out.below).mono ?_;rintro e we ⟨rfl,bn⟩;have T:=Hh (T.out.call bn);clear bn)
 |((with_reducible refine at_ld 15 ?_);refine wpList_allocE T.out 136 _ rfl rfl Zgd ?_;intro wf g3 tn;have T:=Hh tn;clear tn)
 |((with_reducible refine at_st 15 42 ?_);refine wpList_storeW 136 _ _ 136 g3 _ ([.string nm,.int .i64 xl,.int .i64 xc]) (T.out.get 2 rfl) rfl Vv (by simp[Value.oneCell']) rfl rfl rfl rfl rfl ?_;intro wd p;have T:=Hh (T.out.put 2 rfl p);clear p;obtain⟨j0,j1,j2,_,_,_⟩:=Zl (T.out.get 2 rfl))
 |((with_reducible refine at_ld 16 ?_);refine wpList_allocE T.out 29 _ rfl rfl Uv ?_;intro wg g4 tn;have T:=Hh tn;clear tn)
 |((with_reducible refine at_st 16 47 ?_);refine wpList_storeW 29 _ _ 29 g4 _ ([.int .i64 0,.int .i64 xl,.int .i64 xc]) (T.out.get 3 rfl) rfl Zf (by simp[Value.oneCell']) rfl rfl rfl rfl rfl ?_;intro wd p;have T:=Hh (T.out.put 3 rfl p);clear p;obtain⟨k0,k1,k2,_,_,_⟩:=Zl (T.out.get 3 rfl))
 |((with_reducible refine at_ld 49 ?_);refine wpList_loadW 38 _ 38 g2 (ys) (T.out.get 1 rfl) lrow_pl (by rw[hyl];exact Wf) rfl rfl rfl ?_)
 |(go_at_call 38;refine(hc _ T.out.below).mono ?_;rintro e wh ⟨rfl,bn⟩;have T:=Hh (T.out.call bn);clear bn)
 |((with_reducible refine at_st 16 50 ?_);refine wpList_storeW 29 _ _ 29 g4 _ ([.int .i64 f0,.int .i64 f1,.int .i64 f2]) (T.out.get 3 rfl) rfl Zf (by simp[Value.oneCell']) rfl rfl rfl rfl rfl ?_;intro wd p;have T:=Hh (T.out.put 3 rfl p);clear p;obtain⟨k0,k1,k2,_,_,_⟩:=Zl (T.out.get 3 rfl))
 |((with_reducible refine at_ld 64 ?_);refine wpList_loadW 29 _ 29 g4 ([.int .i64 f0,.int .i64 f1,.int .i64 f2]) (T.out.get 3 rfl) Zw Zf rfl rfl rfl ?_)
 |((with_reducible refine at_st 8 64 ?_);refine wpList_storeW 29 _ _ 29 g1 _ ([.int .i64 f0,.int .i64 f1,.int .i64 f2]) (T.out.get 0 rfl) rfl Zf (by simp[Value.oneCell']) rfl rfl rfl rfl rfl ?_;intro wd p;have T:=Hh (T.out.put 0 rfl p);clear p))
         exact Zj 8 29 29 g1 ([.int .i64 f0,.int .i64 f1,.int .i64 f2]) rfl (T.out.get 0 rfl) Zw Zf rfl rfl ⟨rfl,T.out.below⟩
     ·have hz2:=hz.out
      rw[List.drop_of_length_le (by have:=HN.out;omega)]at hz2;have hz2:R=(0,0,0):=hz2;subst hz2;clear hz;go_wp2_with(((with_reducible refine at_st 8 66 ?_);refine wpList_storeW 29 _ _ 29 g1 _ ([.int .i64 0,.int .i64 0,.int .i64 0]) (T.out.get 0 rfl) rfl Zf (by simp[Value.oneCell']) rfl rfl rfl rfl rfl ?_;intro wd p;have T:=Hh (T.out.put 0 rfl p);clear p))
      exact Zj 8 29 29 g1 ([.int .i64 0,.int .i64 0,.int .i64 0]) rfl (T.out.get 0 rfl) Zw Zf rfl rfl ⟨rfl,T.out.below⟩
end Go.Proofs.YtljdgdphldckhaaGreat
