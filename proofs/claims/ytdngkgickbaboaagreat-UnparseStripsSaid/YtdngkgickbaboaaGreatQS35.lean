/-
  No conditions but those that each theorem names.
-/
import Derived.Test.YtdngkgickbaboaaGreatQS27
set_option maxRecDepth 20000
set_option maxHeartbeats 12800000
namespace Go.Proofs.YtdngkgickbaboaaGreat
open Go.Great Go.ChangeShapes Go.WideShapes Go.ChangeAt Go.RowKit
set_option linter.unusedVariables false
set_option linter.unusedSimpArgs false
theorem sixZ{vs:List Value}(h:vs.length=6):∃ a b c d e f,vs=[a,b,c,d,e,f]:=by
 match vs,h with
 |[a,b,c,d,e,f],_=>exact⟨a,b,c,d,e,f,rfl⟩
def ClrOK(x:Acs):Prop:=∀(w:World)(N:Nat→Prop)(v:Value),Zn N w (.row x.bare.len x.bare.ds .nil) [v]→Calls Tryz.prog 69 #[v] w fun e w'=>e=.returned (.bool true)∧Below w.heap.size w w'
theorem clr_walk(x:Acs)(hall:∀ k u,x.at? k=some u→ClrOK u.2.1∧ClrOK u.2.2):ClrOK x:=by
 intro w N v hd;obtain⟨B,bc,xs,rfl,hn,hw,hx⟩:=hd.inRow;obtain⟨n,hn0⟩:∃ n,n=x.bare.len:=⟨_,rfl⟩
 rw[←hn0]at hn ⊢;have HN:=Hh (show n=x.len by rw[hn0,Acs.bare_len]);have HW:=Hh (And.intro hw hx);have HA:=Hh hall;clear hw hx hn0 hall;have l63:(n:Int)≤9223372036854775807:=by omega
 have T:=Hh (Env.start w);go_enter Tryz.func69,Tryz.ntmps69;go_wp2_with fail
 go_loopw [3] (fun i wr=>∃ m:Nat,i=.int .i64 m∧m≤n∧Env w [] [] [] wr) (fun i _=>n - (intOf i).toNat)
 case atStart=>exact⟨0,by go_num,Nat.zero_le _,T.out⟩
 case round=>
  obtain⟨m,rfl,hm,hT⟩:=hrel;have T:=Hh hT;clear hT;by_cases hlt:m<n
  · obtain⟨u,hu⟩:=Acs.at_some x m (by rw[←HN.out];exact hlt)
    have hu2:=Acs.bare_at x m u hu;obtain⟨g,ys,rfl,hg,hR,hy⟩:=act_at HW.out.1 HW.out.2 hu2;obtain⟨sel,num,pl,pr,thn,els,rfl,h1,h2,h3,h4,h5,h6⟩:=act_of hy;have e1:sel.length=6:=by rw[h1.len,Se.ds_len]
    have e2:num.length=12:=by rw[h2.len,Ex.ds_len]
    have e3:pl.length=12:=by rw[h3.len,Ex.ds_len]
    have e4:pr.length=12:=by rw[h4.len,Ex.ds_len]
    have h5:Zn N w (.row u.2.1.bare.len u.2.1.bare.ds .nil) [thn]:=h5;have h6:Zn N w (.row u.2.2.bare.len u.2.2.bare.ds .nil) [els]:=h6
    have HC:Hid (∀ y,Below w.heap.size w y→y.cell? ⟨g,m*53+1,none⟩=some (.int .i64 0)∧y.cell? ⟨g,m*53+2,none⟩=some (.int .i64 0)∧y.cell? ⟨g,m*53+51,none⟩=some thn∧y.cell? ⟨g,m*53+52,none⟩=some els):=Hh fun y hb=>by
     have h:=Vl hR hg hb;obtain⟨s0,s1,s2,s3,s4,s5,rfl⟩:=sixZ e1;obtain⟨a0,a1,a2,a3,a4,a5,a6,a7,a8,a9,a10,a11,rfl⟩:=Zad _ e2;obtain⟨b0,b1,b2,b3,b4,b5,b6,b7,b8,b9,b10,b11,rfl⟩:=Zad _ e3;obtain⟨c0,c1,c2,c3,c4,c5,c6,c7,c8,c9,c10,c11,rfl⟩:=Zad _ e4;exact⟨h 1 _ rfl,h 2 _ rfl,h 51 _ rfl,h 52 _ rfl⟩
    have C1:=Hh (fun y (b:Below w.heap.size w y)=>(HA.out m u hu).1 y N thn (h5.below b));have C2:=Hh (fun y (b:Below w.heap.size w y)=>(HA.out m u hu).2 y N els (h6.below b));have O:=Hh (And.intro (h5.one thn (by simp)) (h6.one els (by simp)));clear hu hu2 hR hy h1 h2 h3 h4 h5 h6 e1 e2 e3 e4;obtain⟨d1,d2,d3,d4⟩:=HC.out _ T.out.below;have lk:(m:Int)<(n:Int):=by omega
    go_wp2_with(first
 |(go_at_call 69;(with_reducible refine(C1.out _ T.out.below).mono ?_);rintro e wn ⟨rfl,bn⟩;have T:=Hh (T.out.call bn);clear bn d1 d2 d3 d4;obtain⟨d1,d2,d3,d4⟩:=HC.out _ T.out.below)
 |(go_at_call 69;(with_reducible refine(C2.out _ T.out.below).mono ?_);rintro e wn ⟨rfl,bn⟩;have T:=Hh (T.out.call bn);clear bn d1 d2 d3 d4;obtain⟨d1,d2,d3,d4⟩:=HC.out _ T.out.below))
    go_roundw
    case rel=>exact⟨m+1,by go_num,by omega,T.out⟩
    case measure=>simp[intOf];omega
  · have lk:¬(m:Int)<(n:Int):=by omega
    go_wp2
    go_ret;exact⟨rfl,T.out.below⟩
theorem rClear(x:Acs):ClrOK x:=
 clr_walk x fun k u hu=>
  have h:=Acs.at_lt x k u hu
  ⟨rClear u.2.1,rClear u.2.2⟩
termination_by SizeOf.sizeOf x
decreasing_by
 all_goals first | exact(Acs.at_lt x k u hu).1 | exact(Acs.at_lt x k u hu).2
theorem rBare(l:List Ru)(w:World)(N:Nat→Prop)(v:Value)(hd:Zn N w (.row (l.map Ru.bare).length (Ur (l.map Ru.bare)) .nil) [v]):Calls Tryz.prog 40 #[v] w fun e w'=>e=.returned (.bool true)∧Below w.heap.size w w':=by
 obtain⟨B,bc,xs,rfl,hn,hw,hx⟩:=hd.inRow;obtain⟨n,hn0⟩:∃ n,n=(l.map Ru.bare).length:=⟨_,rfl⟩
 rw[←hn0]at hn ⊢;have HN:=Hh hn0;have HW:=Hh (And.intro hw hx);clear hw hx hn0;have l63:(n:Int)≤9223372036854775807:=by omega
 have T:=Hh (Env.start w);go_enter Tryz.func40,Tryz.ntmps40;go_wp2_with fail
 go_loopw [3] (fun i wr=>∃ m:Nat,i=.int .i64 m∧m≤n∧Env w [] [] [] wr) (fun i _=>n - (intOf i).toNat)
 case atStart=>exact⟨0,by go_num,Nat.zero_le _,T.out⟩
 case round=>
  obtain⟨m,rfl,hm,hT⟩:=hrel;have T:=Hh hT;clear hT;by_cases hlt:m<n
  · have hk1:m<(l.map Ru.bare).length:=by rw[←HN.out];exact hlt
    obtain⟨pre,ys,post,hxs,hp,hy⟩:=rus_atQ HW.out.2 m hk1;obtain⟨g,rfl,hg,hc⟩:=HW.out.1.reads (by rw[hxs];have:=hy.len;have e5:((l.map Ru.bare)[m]'hk1).ds.len=5:=rfl;simp;omega);have hR:w.rangeAt g (m*5) ys:=Zhq (by rw[hxs]at hc;exact hc) hp;rw[List.getElem_map]at hy;generalize l[m]'(by simpa using hk1)=r at hy;obtain⟨wh,st,ln,cl,acts⟩:=r;obtain⟨_,rfl,_,rfl,_,rfl,_,rfl,D,ac,zs,_,rfl,hnn,hwz,hdz,rfl⟩:=hy;have h5:Zn N w (.row acts.bare.len acts.bare.ds .nil) [.slice D acts.bare.len ac]:=⟨D,ac,zs,[],rfl,hnn,hwz,hdz,rfl⟩
    have C1:=Hh (fun y (b:Below w.heap.size w y)=>rClear acts y N _ (h5.below b))
    have HC:Hid (∀ y,Below w.heap.size w y→y.cell? ⟨g,m*5+2,none⟩=some (.int .i64 0)∧y.cell? ⟨g,m*5+3,none⟩=some (.int .i64 0)∧y.cell? ⟨g,m*5+4,none⟩=some (.slice D acts.bare.len ac)):=Hh fun y hb=>by
     have h:=Vl hR hg hb;exact⟨h 2 _ rfl,h 3 _ rfl,h 4 _ rfl⟩
    generalize acts.bare.len=an at *;clear hxs hp hc hR hk1 h5 hnn hwz hdz;obtain⟨d1,d2,d3⟩:=HC.out _ T.out.below;have lk:(m:Int)<(n:Int):=by omega
    go_wp2_with(first
 |(go_at_call 69;(with_reducible refine(C1.out _ T.out.below).mono ?_);rintro e wn ⟨rfl,bn⟩;have T:=Hh (T.out.call bn);clear bn))
    go_roundw
    case rel=>exact⟨m+1,by go_num,by omega,T.out⟩
    case measure=>simp[intOf];omega
  · have lk:¬(m:Int)<(n:Int):=by omega
    go_wp2
    go_ret;exact⟨rfl,T.out.below⟩
theorem whole2S{w:World}{g:Nat}{t:TypeId}{a b:Value}(W:Zf w g t [a,b].toArray):w.cell? ⟨g,0,none⟩=some a∧w.cell? ⟨g,1,none⟩=some b:=⟨W.read 0,W.read 1⟩
theorem rStripped(f:Fi)(w:World)(N:Nat→Prop)(vs:List Value)(hd:Zn N w f.bare.ds vs):Calls Tryz.prog 15 #[.agg vs.toArray] w fun e w'=>e=.returned (.bool true)∧Below w.heap.size w w':=by
 obtain⟨A,ac,xs,_,rfl,hn,hw,hx,B,bc,ys,_,rfl,hk,hw2,hx2,rfl⟩:=hd;obtain⟨n,hn0⟩:∃ n,n=f.bare.cards.length:=⟨_,rfl⟩
 obtain⟨k,hk0⟩:∃ k,k=f.bare.places.length:=⟨_,rfl⟩
 rw[←hn0]at hn ⊢;rw[←hk0]at hk ⊢;have HN:Hid (n=(f.cards.map Ca.bare).length):=Hh hn0;have HK:Hid (k=(f.places.map Pl.bare).length):=Hh hk0;have HW1:Hid (Vw N w A xs∧Zn N w (Zaa (f.cards.map Ca.bare)) xs):=Hh (And.intro hw hx);have HW2:Hid (Vw N w B ys∧Zn N w (Jx (f.places.map Pl.bare)) ys):=Hh (And.intro hw2 hx2);clear hn0 hk0 hw hx hw2 hx2;have l63:(n:Int)≤9223372036854775807:=by omega
 have k63:(k:Int)≤9223372036854775807:=by omega
 have T:=Hh (Env.start w);go_enter Tryz.func15,Tryz.ntmps15;go_wp2_with(first
 |((with_reducible refine Zd 1 ?_);refine Zo T.out 26 _ ([.slice A n ac,.slice B k bc]) rfl rfl rfl ?_;intro wn g0 tn;have T:=Hh tn;clear tn))
 go_loopw [3] (fun i wr=>∃ m:Nat,i=.int .i64 m∧m≤n∧Env w [(g0,26,[.slice A n ac,.slice B k bc])] [] [] wr) (fun i _=>n - (intOf i).toNat)
 case atStart=>exact⟨0,by go_num,Nat.zero_le _,T.out⟩
 case round=>
  obtain⟨m,rfl,hm,hT⟩:=hrel;have T:=Hh hT;clear hT;obtain⟨c0,c1⟩:=whole2S (T.out.get 0 rfl);by_cases hlt:m<n
  · have hk1:m<(f.cards.map Ca.bare).length:=by rw[←HN.out];exact hlt
    obtain⟨pre,ys,post,hxs,hp,hy⟩:=cas_at HW1.out.2 m hk1;have hyl:ys.length=6:=by rw[hy.len];rfl
    obtain⟨g,rfl,hg,hc⟩:=HW1.out.1.reads (by rw[hxs];simp;omega);have hR:w.rangeAt g (m*6) ys:=Zhq (by rw[hxs]at hc;exact hc) hp;rw[List.getElem_map]at hy;generalize f.cards[m]'(by simpa using hk1)=r at hy;obtain⟨nm,cost,pw,ln,cl,rules⟩:=r;obtain⟨_,rfl,_,rfl,_,rfl,_,rfl,_,rfl,D,dc,zs,_,rfl,hnn,hwz,hdz,rfl⟩:=hy;have h5:Zn N w (.row (rules.map Ru.bare).length (Ur (rules.map Ru.bare)) .nil) [.slice D (rules.map Ru.bare).length dc]:=⟨D,dc,zs,[],rfl,hnn,hwz,hdz,rfl⟩
    have C1:=Hh (fun y (b:Below w.heap.size w y)=>rBare rules y N _ (h5.below b))
    have HC:Hid (∀ y,Below w.heap.size w y→y.cell? ⟨g,m*6+3,none⟩=some (.int .i64 0)∧y.cell? ⟨g,m*6+4,none⟩=some (.int .i64 0)∧y.cell? ⟨g,m*6+5,none⟩=some (.slice D (rules.map Ru.bare).length dc)):=Hh fun y hb=>by
     have h:=Vl hR hg hb;exact⟨h 3 _ rfl,h 4 _ rfl,h 5 _ rfl⟩
    generalize(rules.map Ru.bare).length=rn at *;clear hxs hp hc hR hk1 h5 hnn hwz hdz hyl;obtain⟨d1,d2,d3⟩:=HC.out _ T.out.below;have lk:(m:Int)<(n:Int):=by omega
    go_wp2_with(first
 |(go_at_call 40;(with_reducible refine(C1.out _ T.out.below).mono ?_);rintro e wn ⟨rfl,bn⟩;have T:=Hh (T.out.call bn);clear bn))
    go_roundw
    case rel=>exact⟨m+1,by go_num,by omega,T.out⟩
    case measure=>simp[intOf];omega
  · have lk:¬(m:Int)<(n:Int):=by omega
    go_wp2_with fail
    clear c0 c1 lk hlt hm;go_loopw [4] (fun i wr=>∃ m:Nat,i=.int .i64 m∧m≤k∧Env w [(g0,26,[.slice A n ac,.slice B k bc])] [] [] wr) (fun i _=>k - (intOf i).toNat)
    case atStart=>exact⟨0,by go_num,Nat.zero_le _,T.out⟩
    case round=>
     obtain⟨m,rfl,hm,hT⟩:=hrel;have T:=Hh hT;clear hT;obtain⟨c0,c1⟩:=whole2S (T.out.get 0 rfl);by_cases hlt:m<k
     ·have hk1:m<(f.places.map Pl.bare).length:=by rw[←HK.out];exact hlt
      obtain⟨pre,ys,post,hxs,hp,hy⟩:=pls_at HW2.out.2 m hk1;have hyl:ys.length=4:=by rw[hy.len];rfl
      obtain⟨g,rfl,hg,hc⟩:=HW2.out.1.reads (by rw[hxs];simp;omega);have hR:w.rangeAt g (m*4) ys:=Zhq (by rw[hxs]at hc;exact hc) hp;rw[List.getElem_map]at hy;generalize f.places[m]'(by simpa using hk1)=r at hy;obtain⟨nm,ln,cl,rules⟩:=r;obtain⟨_,rfl,_,rfl,_,rfl,D,dc,zs,_,rfl,hnn,hwz,hdz,rfl⟩:=hy;have h5:Zn N w (.row (rules.map Ru.bare).length (Ur (rules.map Ru.bare)) .nil) [.slice D (rules.map Ru.bare).length dc]:=⟨D,dc,zs,[],rfl,hnn,hwz,hdz,rfl⟩
      have C1:=Hh (fun y (b:Below w.heap.size w y)=>rBare rules y N _ (h5.below b))
      have HC:Hid (∀ y,Below w.heap.size w y→y.cell? ⟨g,m*4+1,none⟩=some (.int .i64 0)∧y.cell? ⟨g,m*4+2,none⟩=some (.int .i64 0)∧y.cell? ⟨g,m*4+3,none⟩=some (.slice D (rules.map Ru.bare).length dc)):=Hh fun y hb=>by
       have h:=Vl hR hg hb;exact⟨h 1 _ rfl,h 2 _ rfl,h 3 _ rfl⟩
      generalize(rules.map Ru.bare).length=rn at *;clear hxs hp hc hR hk1 h5 hnn hwz hdz hyl;obtain⟨d1,d2,d3⟩:=HC.out _ T.out.below;have lk:(m:Int)<(k:Int):=by omega
      go_wp2_with(first
 |(go_at_call 40;(with_reducible refine(C1.out _ T.out.below).mono ?_);rintro e wn ⟨rfl,bn⟩;have T:=Hh (T.out.call bn);clear bn))
      go_roundw
      case rel=>exact⟨m+1,by go_num,by omega,T.out⟩
      case measure=>simp[intOf];omega
     ·have lk:¬(m:Int)<(k:Int):=by omega
      go_wp2
      go_ret;exact⟨rfl,T.out.below⟩
end Go.Proofs.YtdngkgickbaboaaGreat
