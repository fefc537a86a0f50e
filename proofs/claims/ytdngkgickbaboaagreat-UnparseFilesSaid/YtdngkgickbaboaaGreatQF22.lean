/- Parts of the proof. No conditions but those that each names. -/
import Derived.Test.YtdngkgickbaboaaGreatQF21
set_option maxRecDepth 20000
set_option maxHeartbeats 12800000
set_option linter.unusedVariables false
set_option linter.unusedSimpArgs false
namespace Go.Proofs.YtdngkgickbaboaaGreat
open Go.Value renaming int→I,slice→Λ,string→Ψ
open Go.IntKind renaming i64→J
open Nat renaming le_refl→Θ
open _root_.ByteArray renaming size_append→Δ
open And renaming intro→ζ
open Go.ChangeShapes Go.WideShapes Go.ChangeAt Go.RowKit Go.Great
def Zoe(s:ByteArray)(c:Ca):ByteArray:=s++Zml c++⟨#[10]⟩
def Znr(s:ByteArray)(p:Pl):ByteArray:=s++Zhc p++⟨#[10]⟩
theorem Zph:∀(l:List Ca)(s:ByteArray),s.size≤(l.foldl Zoe s).size
 |[],s=>Θ _
 |c::l,s=>by
  have h2:=Zph l (Zoe s c);have h1:s.size≤(Zoe s c).size:=by unfold Zoe;simp only[Δ];omega
  show s.size≤(l.foldl Zoe (Zoe s c)).size;omega
theorem Zlr:∀(l:List Pl)(s:ByteArray),s.size≤(l.foldl Znr s).size
 |[],s=>Θ _
 |c::l,s=>by
  have h2:=Zlr l (Znr s c);have h1:s.size≤(Znr s c).size:=by unfold Znr;simp only[Δ];omega
  show s.size≤(l.foldl Znr (Znr s c)).size;omega
theorem Zpy{w:World}{g:Nat}{t:TypeId}{a b:Value}(W:Ze w g t [a,b].toArray):w.cell? ⟨g,0,none⟩=some a∧w.cell? ⟨g,1,none⟩=some b:=⟨W.read 0,W.read 1⟩
theorem rz_file(w0:World)(N:Nat→Prop)(f:Fi)(hv:VFi f)(vs:List Value)(hd:Zt N w0 f.ds vs)(hb:(rzFi f).size≤10000000000):RzC 12 w0 (.agg vs.toArray) (rzFi f):=by
 intro w by_;obtain⟨cards,places⟩:=f;obtain⟨A,ac,xs,_,rfl,hn,hw,hx,B,bc,ys,_,rfl,hk,hw2,hx2,rfl⟩:=hd;obtain⟨n,hn0⟩:∃ n,n=cards.length:=⟨_,rfl⟩
 obtain⟨k,hk0⟩:∃ k,k=places.length:=⟨_,rfl⟩
 rw[←hn0]at hn ⊢;rw[←hk0]at hk ⊢;obtain⟨G,hG⟩:∃ s,s=cards.foldl Zoe ⟨#[]⟩:=⟨_,rfl⟩
 obtain⟨F,hF⟩:∃ s,s=places.foldl Znr G:=⟨_,rfl⟩
 have hFz:rzFi ⟨cards,places⟩=F:=by rw[hF,hG];rfl
 rw[hFz]at hb ⊢;have zG:G.size≤10000000000:=by have:=Zlr places G;rw[←hF]at this;omega
 have HF1:Hid (G=(cards.drop 0).foldl Zoe ⟨#[]⟩):=Hh hG;have HF2:Hid (F=(places.drop 0).foldl Znr G):=Hh hF;have HN:=Hh hn0;have HK:=Hh hk0;have HW1:=Hh (ζ hw hx);have HW2:=Hh (ζ hw2 hx2);have HV1:=Hh hv.1;have HV2:=Hh hv.2;have HB:=Hh by_;clear hn0 hk0 hw hx hw2 hx2 hv hG hF hFz by_;have l63:(n:Int)≤9223372036854775807:=by omega
 have k63:(k:Int)≤9223372036854775807:=by omega
 have T:=Hh (Env.start w);go_enter Tryz.func12,Tryz.ntmps12;go_wp2_with(first
 |((with_reducible refine Zd 1 ?_);refine Zk T.out 26 _ ([Λ A n ac,Λ B k bc]) rfl rfl rfl ?_;intro wn g0 tn;have T:=Hh tn;clear tn))
 go_loopw [3,4] (fun t i wr=>∃(m:Nat)(sm:ByteArray),i=I J m∧m≤n∧t=Ψ sm∧Env w [(g0,26,[Λ A n ac,Λ B k bc])] [] [] wr∧Hid (G=(cards.drop m).foldl Zoe sm)) (fun _ i _=>n - (intOf i).toNat)
 case atStart=>exact⟨0,_,by go_num,Nat.zero_le _,rfl,T.out,HF1⟩
 case round=>
  obtain⟨m,sm,rfl,hm,rfl,hT,hz⟩:=hrel;have T:=Hh hT;clear hT;obtain⟨c0,c1⟩:=Zpy (T.out.get 0 rfl);have zs:sm.size≤10000000000:=by have:=Zph (cards.drop m) sm;rw[←hz.out]at this;omega
  by_cases hlt:m<n
  · have hk1:m<cards.length:=by rw[←HN.out];exact hlt
    obtain⟨pre,ys,post,hxs,hp,hy⟩:=cas_at HW1.out.2 m hk1;have hyl:ys.length=6:=by rw[hy.len];rfl
    obtain⟨g,rfl,hg,hc⟩:=HW1.out.1.reads (by rw[hxs];simp;omega);have hR:w0.rangeAt g (m*6) ys:=Zhg (by rw[hxs]at hc;exact hc) hp;have hz2:=hz.out;rw[Zpf Zoe cards sm hk1]at hz2;have zA:=Zph (cards.drop (m+1)) (Zoe sm (cards[m]'hk1));rw[←hz2]at zA;have zB:sm.size+(Zml (cards[m]'hk1)).size≤(Zoe sm (cards[m]'hk1)).size:=by unfold Zoe;simp only[Δ];omega
    have hx:=rz_card w0 N (cards[m]'hk1) (HV1.out _ (List.getElem_mem hk1)) ys hy (by omega);have HZ:Hid (G=(cards.drop (m+1)).foldl Zoe (sm++Zml (cards[m]'hk1)++⟨#[10]⟩)):=Hh hz2;have zK:(Zml (cards[m]'hk1)).size≤10000000000:=by omega
    generalize Zml (cards[m]'hk1)=K at *;have P1:=Hh (fun y (b:Below w.heap.size w y)=>hx.at_ HB.out y b);have HR:Hid (∀ y,Below w.heap.size w y→y.rangeAt g (m*6) ys):=Hh fun y hb=>Zbg hR hg (HB.out.trans (hb.mono HB.out.size))
    have HYL:=Hh hyl;clear hxs hp hc hR hy hyl hz hz2 zA zB hx;have lk:(m:Int)<(n:Int):=by omega
    go_wp2_with(first
 |((with_reducible refine Zd 18 ?_);refine Zr 35 _ g (m*6) (ys) (HR.out _ T.out.below) Zjm (by rw[HYL.out];exact Zdm) rfl rfl rfl ?_)
 |(go_at_call 8;refine(P1.out _ T.out.below).mono ?_;rintro e wn ⟨rfl,bn⟩;have T:=Hh (T.out.call bn);clear bn c0 c1;obtain⟨c0,c1⟩:=Zpy (T.out.get 0 rfl)))
    go_roundw
    case rel=>exact⟨m+1,_,by go_num,by omega,rfl,T.out,HZ⟩
    case measure=>simp[intOf];omega
  · have hz2:=hz.out
    rw[List.drop_eq_nil_of_le (by have:=HN.out;omega)]at hz2;have hz3:G=sm:=hz2;subst hz3;clear hz hz2;have lk:¬(m:Int)<(n:Int):=by omega
    go_wp2_with fail
    clear c0 c1 lk hlt hm zs;go_loopw [3,5] (fun t i wr=>∃(m:Nat)(sm:ByteArray),i=I J m∧m≤k∧t=Ψ sm∧Env w [(g0,26,[Λ A n ac,Λ B k bc])] [] [] wr∧Hid (F=(places.drop m).foldl Znr sm)) (fun _ i _=>k - (intOf i).toNat)
    case atStart=>exact⟨0,_,by go_num,Nat.zero_le _,rfl,T.out,HF2⟩
    case round=>
     obtain⟨m,sm,rfl,hm,rfl,hT,hz⟩:=hrel;have T:=Hh hT;clear hT;obtain⟨c0,c1⟩:=Zpy (T.out.get 0 rfl);have zs:sm.size≤10000000000:=by have:=Zlr (places.drop m) sm;rw[←hz.out]at this;omega
     by_cases hlt:m<k
     ·have hk1:m<places.length:=by rw[←HK.out];exact hlt
      obtain⟨pre,ys,post,hxs,hp,hy⟩:=pls_at HW2.out.2 m hk1;have hyl:ys.length=4:=by rw[hy.len];rfl
      obtain⟨g,rfl,hg,hc⟩:=HW2.out.1.reads (by rw[hxs];simp;omega);have hR:w0.rangeAt g (m*4) ys:=Zhg (by rw[hxs]at hc;exact hc) hp;have hz2:=hz.out;rw[Zpf Znr places sm hk1]at hz2;have zA:=Zlr (places.drop (m+1)) (Znr sm (places[m]'hk1));rw[←hz2]at zA;have zB:sm.size+(Zhc (places[m]'hk1)).size≤(Znr sm (places[m]'hk1)).size:=by unfold Znr;simp only[Δ];omega
      have hx:=rz_place w0 N (places[m]'hk1) (HV2.out _ (List.getElem_mem hk1)) ys hy (by omega);have HZ:Hid (F=(places.drop (m+1)).foldl Znr (sm++Zhc (places[m]'hk1)++⟨#[10]⟩)):=Hh hz2;have zK:(Zhc (places[m]'hk1)).size≤10000000000:=by omega
      generalize Zhc (places[m]'hk1)=K at *;have P1:=Hh (fun y (b:Below w.heap.size w y)=>hx.at_ HB.out y b);have HR:Hid (∀ y,Below w.heap.size w y→y.rangeAt g (m*4) ys):=Hh fun y hb=>Zbg hR hg (HB.out.trans (hb.mono HB.out.size))
      have HYL:=Hh hyl;clear hxs hp hc hR hy hyl hz hz2 zA zB hx;have lk:(m:Int)<(k:Int):=by omega
      go_wp2_with(first
 |((with_reducible refine Zd 34 ?_);refine Zr 38 _ g (m*4) (ys) (HR.out _ T.out.below) Zjl (by rw[HYL.out];exact Zdl) rfl rfl rfl ?_)
 |(go_at_call 10;refine(P1.out _ T.out.below).mono ?_;rintro e wn ⟨rfl,bn⟩;have T:=Hh (T.out.call bn);clear bn c0 c1;obtain⟨c0,c1⟩:=Zpy (T.out.get 0 rfl)))
      go_roundw
      case rel=>exact⟨m+1,_,by go_num,by omega,rfl,T.out,HZ⟩
      case measure=>simp[intOf];omega
     ·have hz2:=hz.out
      rw[List.drop_eq_nil_of_le (by have:=HK.out;omega)]at hz2;have hz3:F=sm:=hz2;subst hz3;clear hz hz2;have lk:¬(m:Int)<(k:Int):=by omega
      go_wp2
      go_ret;exact⟨rfl,T.out.below⟩
end Go.Proofs.YtdngkgickbaboaaGreat
