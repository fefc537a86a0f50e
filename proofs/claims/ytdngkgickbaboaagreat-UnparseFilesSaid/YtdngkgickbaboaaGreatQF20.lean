/- Parts of the proof. No conditions but those that each names. -/
import Derived.Test.YtdngkgickbaboaaGreatQF19
set_option maxRecDepth 20000
set_option maxHeartbeats 12800000
set_option linter.unusedVariables false
set_option linter.unusedSimpArgs false
namespace Go.Proofs.YtdngkgickbaboaaGreat
open Go.Value renaming int→I,slice→Λ,pointer→Ω,string→Ψ
open Go.IntKind renaming i64→J
open Nat renaming le_refl→Θ
open _root_.ByteArray renaming size_append→Δ
open And renaming intro→ζ
open Go.ChangeShapes Go.WideShapes Go.ChangeAt Go.RowKit Go.Great
theorem und_rusZ:Tryz.prog.underlying 33=some (.slice 46):=by kernel_rfl
theorem rzRu_size(s:ByteArray)(r:Ru):s.size+(Jg r.acts).size≤(Zkq s r).size:=by
 unfold Zkq;split<;>simp only[Δ]<;>omega
theorem Zmk:∀(l:List Ru)(s:ByteArray),s.size≤(l.foldl Zkq s).size
 |[],s=>Θ _
 |r::l,s=>by
  have h1:=rzRu_size s r;have h2:=Zmk l (Zkq s r);show s.size≤(l.foldl Zkq (Zkq s r)).size;omega
theorem Zpf{α β:Type}(f:β→α→β)(l:List α)(s:β){m:Nat}(h:m<l.length):(l.drop m).foldl f s=(l.drop (m+1)).foldl f (f s (l[m]'h)):=by
 rw[List.drop_eq_getElem_cons h];rfl
theorem Znp{n:Int}(h0 : -99≤n)(h9:n≤99):(Xf n).size≤1000:=by
 have:=Zaw n (by omega) (by omega);omega
theorem Zpo{n:Int}(h0:0≤n)(h9:n≤99):(Xf n).size≤1000:=Znp (by omega) h9
theorem rz_rules(w0:World)(N:Nat→Prop)(l:List Ru)(hv:∀ r ∈ l,VRu r)(v:Value)(hd:Zt N w0 (.row l.length (Zea l) .nil) [v])(hb:(Zkp l).size≤10000000000):RzC 30 w0 v (Zkp l):=by
 intro w by_;obtain⟨B,bc,xs,rfl,hn,hw,hd⟩:=hd.inRow;obtain⟨n,hn0⟩:∃ n,n=l.length:=⟨_,rfl⟩
 rw[←hn0]at hn ⊢;unfold Zkp at hb ⊢;obtain⟨F,hF⟩:∃ s,s=l.foldl Zkq ⟨#[123,32]⟩:=⟨_,rfl⟩
 rw[←hF]at hb ⊢;simp only[Δ]at hb;have zF:F.size≤10000000000:=by omega
 have HN:=Hh hn0;have HW:=Hh (ζ hw hd);have HV:=Hh hv;have HF:=Hh hF;have HB:=Hh by_;clear hw hd hn0 hF hv hb by_;have l63:(n:Int)≤9223372036854775807:=by omega
 have T:=Hh (Env.start w);go_enter Tryz.func30,Tryz.ntmps30;go_wp2_with fail
 go_loopw [3,4] (fun t i wr=>∃(m:Nat)(sm:ByteArray),i=I J m∧m≤n∧t=Ψ sm∧Env w [] [] [] wr∧Hid (F=(l.drop m).foldl Zkq sm)) (fun _ i _=>n - (intOf i).toNat)
 case atStart=>exact⟨0,_,by go_num,Nat.zero_le _,rfl,T.out,HF⟩
 case round=>
  obtain⟨m,sm,rfl,hm,rfl,hT,hz⟩:=hrel;have T:=Hh hT;clear hT;have zs:sm.size≤10000000000:=by have:=Zmk (l.drop m) sm;rw[←hz.out]at this;omega
  by_cases hlt:m<n
  · have hk1:m<l.length:=by rw[←HN.out];exact hlt
    obtain⟨pre,ys,post,hxs,hp,hy⟩:=rus_atQ HW.out.2 m hk1;obtain⟨g,rfl,hg,hc⟩:=HW.out.1.reads (by rw[hxs];have:=hy.len;have e5:(l[m]'hk1).ds.len=5:=rfl;simp;omega);have hR:w0.rangeAt g (m*5) ys:=Zhg (by rw[hxs]at hc;exact hc) hp;have hvr:=HV.out _ (List.getElem_mem hk1);have hz2:=hz.out;rw[Zpf Zkq l sm hk1]at hz2;have zA:=Zmk (l.drop (m+1)) (Zkq sm (l[m]'hk1));rw[←hz2]at zA;have zB:=rzRu_size sm (l[m]'hk1);generalize l[m]'hk1=r at *;obtain⟨wh,str,rl,rc,acts⟩:=r;obtain⟨_,rfl,_,rfl,_,rfl,_,rfl,D,ac,zs',_,rfl,hnn,hwz,hdz,rfl⟩:=hy;have hrow:Zt N w0 (.row acts.len acts.ds .nil) [Λ D acts.len ac]:=⟨D,ac,zs',[],rfl,hnn,hwz,hdz,rfl⟩
    obtain⟨hv1,hv2,_,hv4⟩:=hvr;dsimp only at hv1 hv2 hv4 zB;have zK:(Jg acts).size≤10000000000:=by omega
    have hx:=rz_block w0 N 0 acts hv4 _ hrow zK;unfold Zkq at hz2;dsimp only at hz2;generalize Jg acts=K at *;generalize acts.len=an at *;have HK:=Hh (fun y (b:Below w.heap.size w y)=>hx.at_ HB.out y b);obtain⟨j,rfl⟩:∃ j:Nat,wh=j:=⟨wh.toNat,by omega⟩
    have w1:1≤j:=by omega
    have w2:j≤Yx.length:=by show j≤6;omega
    have q1 : -9223372036854775808≤str:=by omega
    have q2:str≤9223372036854775807:=by omega
    have i1:(0:Int)≤(j:Int):=by omega
    have i2:(j:Int)<7:=by omega
    have zw:=Yr (L:=Yx) (by decide) (j:Int);have zp:(Xf str).size≤1000:=Zpo hv2.1 hv2.2
    have HC:Hid (∀ y,Below w.heap.size w y→y.cell? ⟨g,m*5,none⟩=some (I J (j:Int))∧y.cell? ⟨g,m*5+1,none⟩=some (I J str)∧y.cell? ⟨g,m*5+4,none⟩=some (Λ D an ac)):=Hh fun y hb=>by
     have h:=Zbg hR hg (HB.out.trans (hb.mono HB.out.size));exact⟨h 0 _ rfl,h 1 _ rfl,h 4 _ rfl⟩
    clear hxs hp hc hR hk1 hrow hnn hwz hdz hv1 hv2 hv4 hz hx zA zB;have HZ2:=Hh hz2;clear hz2;have lk:(m:Int)<(n:Int):=by omega
    go_upto_region 5 with fail
    refine Xg (fun x=>Env w [] [] [] x) (by kernel_rfl) T.out.drew ?_;have hst:Zdp (fun x=>Env w [] [] [] x):=fun x y h e=>Env.call h e
    refine AB.tk 0 (Ψ sm) rfl rfl (by kernel_rfl) (fun _ _ _ h=>h) hst (Vn rfl rfl rfl) ?_;simp only[Qy,Qx];refine AB.tk 2 (Λ (some ⟨g,0,none⟩) n bc) rfl rfl (by kernel_rfl) (fun _ _ _ h=>h) hst (Vn rfl rfl rfl) ?_;simp only[Qy,Qx];refine AB.tk 3 (I J (m:Int)) rfl rfl (by kernel_rfl) (fun _ _ _ h=>h) hst (Vn rfl rfl rfl) ?_;simp only[Qy,Qx];refine AB.tk 4 (Ω (some ⟨g,m*5,none⟩)) rfl rfl (by kernel_rfl) (fun _ _ _ h=>h) hst (Zge (by rfl) rfl rfl rfl hlt und_rusZ Zkv) ?_;simp only[Qy,Qx];refine AB.tk 5 (Ω (some ⟨g,m*5,none⟩)) rfl rfl (by kernel_rfl) (fun _ _ _ h=>h) hst (Zn rfl (fun y hy=>by go_simp)) ?_;simp only[Qy,Qx];refine AB.tk 6 (I J (j:Int)) rfl rfl (by kernel_rfl) (fun _ _ _ h=>h) hst (Zn rfl (fun y hy=>by have c0:=(HC.out y hy.below).1;go_simp)) ?_;simp only[Qy,Qx];refine AB.one (i:=1) (by kernel_rfl) (Zeg.some (val:=fun g=>Λ (some ⟨g,0,none⟩) 7 7) (φ :=fun g x=>Ze x g 9 (wWhens.map Value.string).toArray) rfl rfl rfl hst (fun y hy=>by kernel_rfl) (fun y hy=>(rz_whens y).mono fun e w2 ⟨g,he,hg,hb⟩=>⟨g,he,hg,hb⟩) (fun g x y h e=>Ze.below h e (Ze.inside h)) (fun ga=>?_));simp only[Qy,Qx];refine AB.tk 7 (Ω (some ⟨ga,j,none⟩)) rfl rfl (by kernel_rfl) (fun _ _ _ h=>h) (hst.and fun x y h e=>Ze.below h e (Ze.inside h)) (Zn rfl (fun y hy=>by go_simp)) ?_;simp only[Qy,Qx];refine AB.tk 8 (Ψ (wd Yx (j:Int))) rfl rfl (by kernel_rfl) (fun _ _ _ h=>h) (hst.and fun x y h e=>Ze.below h e (Ze.inside h)) (Zn rfl (fun y hy=>by have c0:=Wi (L:=Yx) (hy.2) w1 w2;go_simp)) ?_;simp only[Qy,Qx];refine AB.tk 9 (Ψ (sm++wd Yx (j:Int))) rfl rfl (by kernel_rfl) (fun _ _ _ h=>h) (hst.and fun x y h e=>Ze.below h e (Ze.inside h)) (Yi rfl rfl rfl rfl (by(try simp only[Δ]);have z1:(⟨#[32]⟩:ByteArray).size=1:=rfl;have z2:=Yr (L:=Yx) (by decide) (j:Int);omega)) ?_;simp only[Qy,Qx];refine AB.tk 10 (Ψ (sm++wd Yx (j:Int))) rfl rfl (by kernel_rfl) (fun _ _ _ h=>h) (hst.and fun x y h e=>Ze.below h e (Ze.inside h)) (Zn rfl (fun y hy=>by go_simp)) ?_;simp only[Qy,Qx];refine AB.done (by kernel_rfl) (fun wn hS=>?_);have T:=Hh hS.1;clear hS hst;obtain⟨c0,c1,c2⟩:=HC.out _ T.out.below;by_cases hw5:(j:Int)=5
    ·have HZ:Hid (F=(l.drop (m+1)).foldl Zkq (sm++wd Yx (j:Int)++⟨#[32]⟩++Xf str++⟨#[32]⟩++K++⟨#[32]⟩)):=by have e:=HZ2.out;rw[if_pos hw5]at e;exact Hh e
     have b5:((j:Int) == 5)=true:=by simpa using hw5
     generalize wd Yx (j:Int)=W at *;go_wp2_with(first
 |(go_at_call 29;refine(Zjg str _ q1 q2).mono ?_;rintro e wn ⟨rfl,bn⟩;have T:=Hh (T.out.call bn);clear bn c0 c1 c2;obtain⟨c0,c1,c2⟩:=HC.out _ T.out.below)
 |(go_at_call 62;refine(HK.out _ T.out.below).mono ?_;rintro e wn ⟨rfl,bn⟩;have T:=Hh (T.out.call bn);clear bn))
     go_roundw
     case rel=>exact⟨m+1,_,by go_num,by omega,rfl,T.out,HZ⟩
     case measure=>simp[intOf];omega
    ·have HZ:Hid (F=(l.drop (m+1)).foldl Zkq (sm++wd Yx (j:Int)++⟨#[32]⟩++K++⟨#[32]⟩)):=by have e:=HZ2.out;rw[if_neg hw5]at e;exact Hh e
     have b5:((j:Int) == 5)=false:=by rw[beq_eq_false_iff_ne];exact hw5
     generalize wd Yx (j:Int)=W at *;go_wp2_with(first
 |(go_at_call 29;refine(Zjg str _ q1 q2).mono ?_;rintro e wn ⟨rfl,bn⟩;have T:=Hh (T.out.call bn);clear bn c0 c1 c2;obtain⟨c0,c1,c2⟩:=HC.out _ T.out.below)
 |(go_at_call 62;refine(HK.out _ T.out.below).mono ?_;rintro e wn ⟨rfl,bn⟩;have T:=Hh (T.out.call bn);clear bn))
     go_roundw
     case rel=>exact⟨m+1,_,by go_num,by omega,rfl,T.out,HZ⟩
     case measure=>simp[intOf];omega
  · have hz2:=hz.out
    rw[List.drop_eq_nil_of_le (by have:=HN.out;omega)]at hz2;have hz3:F=sm:=hz2;subst hz3;clear hz hz2;have lk:¬(m:Int)<(n:Int):=by omega
    go_wp2
    go_ret;exact⟨rfl,T.out.below⟩
end Go.Proofs.YtdngkgickbaboaaGreat
