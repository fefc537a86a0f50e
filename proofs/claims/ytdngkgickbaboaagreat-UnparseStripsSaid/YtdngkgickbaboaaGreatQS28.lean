/-
  No conditions but those that each theorem names.
-/
import Derived.Test.YtdngkgickbaboaaGreatQS27
set_option maxRecDepth 20000
set_option maxHeartbeats 12800000
namespace Go.Proofs.YtdngkgickbaboaaGreat
open Go.Great Go.ChangeShapes Go.WideShapes Go.ChangeAt Go.RowKit
set_option linter.unusedVariables false
set_option linter.unusedSimpArgs false
theorem own_gb{w:World}{base:Nat}{e:TypeId}{size:Nat}{v:Value}{n:Nat}{xs:List Value}(h:w.ownsRow base e size v n xs) :
  ∃ A c,v=.slice A n c∧n≤c∧∃ gb,base≤gb∧(0<n→A=some ⟨gb,0,none⟩):=by
 obtain⟨h1,h2⟩:=id h;rcases h2 with⟨rfl,rfl⟩ | ⟨g,cap,cur,rfl,hb,hh,hn,hm,hs,ht⟩
 ·exact⟨none,0,rfl,Nat.le_refl _,base,Nat.le_refl _,fun h=>by omega⟩
 ·exact⟨_,cap,rfl,hn,g,hb,fun _=>rfl⟩
structure ChM(w:World)(T:TypeId)(sz n gb:Nat)(A:Option Addr)(c:Nat)(D:Nat→Nat→World→List Value→Prop)(xs:List Value)(m:Nat)(wr:World):Prop where
 row:∃ zs,wr.ownsRow w.heap.size T sz (.slice A n c) n zs∧(∀ j,j<m→D j (gb+1) wr (elm sz j zs))∧∀ j,j<n→m≤j→elm sz j zs=elm sz j xs
 keep:Zq (fun k=>w.heap.size≤k) w wr
theorem ChM.next{w:World}{T:TypeId}{sz n gb c:Nat}{D:Nat→Nat→World→List Value→Prop}{xs:List Value}{m:Nat}{wr:World}(h:ChM w T sz n gb (some ⟨gb,0,none⟩) c D xs m wr)(hm:m<n)(hb:w.heap.size≤gb)(hD:∀ j,Stb (D j) sz) :
  ∃ pre post,pre.length=m*sz∧Zf wr gb T (pre++elm sz m xs++post).toArray∧∀ e wn,ChgPost wr gb T pre post (D m) e wn→e=.returned (.tuple #[])∧ChM w T sz n gb (some ⟨gb,0,none⟩) c D xs (m+1) wn:=by
 obtain⟨zs,h1,h2,h3⟩:=h.row;obtain⟨pre,post,hW,hp,hset⟩:=own_set h1 hm;rw[h3 m hm (Nat.le_refl _)]at hW;refine⟨pre,post,hp,hW,?_⟩;rintro e wn ⟨rfl,ys,hd,hW2,hk⟩;have hgs:gb<wr.heap.size:=hW.inside;obtain⟨us,g1,g2,g3⟩:=hset ys wn ((hD m).len hd) hW2;refine⟨rfl,⟨us,g1,fun j hj=>?_,fun j hj hm2=>?_⟩,h.keep.trans (hk.mono fun k e=>by subst e;exact hb)⟩
 ·rcases Nat.lt_or_ge j m with hlt | hge
  ·rw[g3 j (by omega) (by omega)]
   exact(hD j).keep (h2 j hlt) hk (by omega)
  ·obtain rfl:j=m:=by omega
   rw[g2];exact(hD j).mono hd (by omega)
 ·rw[g3 j hj (by omega)]
  exact h3 j hj (by omega)
theorem chg_Ex(w:World)(N:Nat→Prop)(v:Value)(L:List Ds)(D:Nat→Nat→World→List Value→Prop)(hl:∀ d ∈ L,d.len=12)(hn:L.length≤1000000)(hd:Zn N w (.row L.length (dsL L) .nil) [v])
  (hD:∀ j,Stb (D j) 12)(hc:∀ m (h:m<L.length),Chg 124 (L[m]'h) (D m)) :
  Calls Tryz.prog 155 #[v,.func (.func 124) #[] #[]] w fun e w'=>∃ v' zs,e=.returned v'∧w'.ownsRow w.heap.size 54 12 v' L.length zs∧(∀ m,m<L.length→D m w.heap.size w' (elm 12 m zs))∧Below w.heap.size w w':=by
 obtain⟨A0,c0,xs,rfl,hn0,hw,hx⟩:=hd.inRow;obtain⟨hxl,hxe⟩:=Zlw hx hl;obtain⟨n,hnn⟩:∃ n,n=L.length:=⟨_,rfl⟩
 obtain⟨E,hE⟩:∃ E:Nat→Ds,∀ m (h:m<L.length),L[m]'h=E m:=⟨fun m=>L.getD m .nil,fun m h=>by simp[List.getD,h]⟩
 have hxe:∀ m,m<n→Zn N w (E m) (elm 12 m xs):=fun m h=>by rw[←hE m (by omega)];exact hxe m (by omega)
 have hc:∀ m,m<n→Chg 124 (E m) (D m):=fun m h=>by rw[←hE m (by omega)];exact hc m (by omega)
 rw[←hnn]at hn hn0 hxl ⊢;have HX:=Hh (fun m (h:m<n) y (b:Below w.heap.size w y)=>Zn.below (Zn.mono (N:=N) (M:=fun k=>k<w.heap.size) (hxe m h) fun k hk _=>hk) b);have HC:=Hh hc;have hcl:=Hh (clone_Ex w N A0 n c0 xs hxl hn hw hx.one);have HD:=Hh hD;clear hxe hc hw hx hl hd hD hxl hE hnn;go_enter Tryz.func155,Tryz.ntmps155;go_wp2_with(first
 |(go_at_call 178;refine(hcl.out).mono ?_;rintro e w1 ⟨v1,rfl,ho,b1⟩;obtain⟨A,c,rfl,hcp,gb,hgb,hA⟩:=own_gb ho;have T0:Hid (ChM w 54 12 n gb A c D xs 0 w1):=Hh ⟨⟨xs,ho,fun j hj=>absurd hj (Nat.not_lt_zero _),fun j _ _=>rfl⟩,Zq.of_below b1⟩;clear ho b1))
 have l63:(n:Int)≤9223372036854775807:=by omega
 go_loopw [10] (fun i wr=>∃ m:Nat,i=.int .i64 m∧m≤n∧ChM w 54 12 n gb A c D xs m wr) (fun i _=>n - (intOf i).toNat)
 case atStart=>exact⟨0,by go_num,Nat.zero_le _,T0.out⟩
 case round=>
  obtain⟨m,rfl,hm,hT⟩:=hrel;by_cases hlt:m<n
  · obtain rfl:=hA (by omega)
    obtain⟨pre,post,hp,hW,hnx⟩:=hT.next hlt hgb HD.out;have hcall:=Hh (HC.out m hlt wr w.heap.size gb (m*12) 54 pre post _ hp.symm hgb hW (HX.out m hlt wr (hT.keep.below (Nat.le_refl _) (fun k h=>h))));have HNX:=Hh hnx;clear hp hW hnx hT;have lk:(m:Int)<(n:Int):=by omega
    go_wp2_with(first
 |(go_at_call 124;refine(hcall.out).mono ?_;intro e wn he;obtain⟨rfl,hT⟩:=HNX.out e wn he;clear he))
    go_roundw
    case rel=>exact⟨m+1,by go_num,by omega,hT⟩
    case measure=>simp[intOf];omega
  · obtain rfl:m=n:=by omega
    have lk:¬(m:Int)<(m:Int):=by omega
    obtain⟨⟨zs,g1,g2,g3⟩,hk⟩:=hT;go_wp2
    go_ret;have g4:∀ j,j<m→D j w.heap.size wr (elm 12 j zs):=fun j hj=>(HD.out j).mono (b:=gb+1) (g2 j hj) (by omega)
    have g5:=hk.below (Nat.le_refl _) (fun k h=>h);exact⟨_,rfl,zs,g1,g4,g5⟩
theorem chg_Ac(w:World)(N:Nat→Prop)(v:Value)(L:List Ds)(D:Nat→Nat→World→List Value→Prop)(hl:∀ d ∈ L,d.len=53)(hn:L.length≤1000000)(hd:Zn N w (.row L.length (dsL L) .nil) [v])
  (hD:∀ j,Stb (D j) 53)(hc:∀ m (h:m<L.length),Chg 92 (L[m]'h) (D m)) :
  Calls Tryz.prog 91 #[v,.func (.func 92) #[] #[]] w fun e w'=>∃ v' zs,e=.returned v'∧w'.ownsRow w.heap.size 58 53 v' L.length zs∧(∀ m,m<L.length→D m w.heap.size w' (elm 53 m zs))∧Below w.heap.size w w':=by
 obtain⟨A0,c0,xs,rfl,hn0,hw,hx⟩:=hd.inRow;obtain⟨hxl,hxe⟩:=Zlw hx hl;obtain⟨n,hnn⟩:∃ n,n=L.length:=⟨_,rfl⟩
 obtain⟨E,hE⟩:∃ E:Nat→Ds,∀ m (h:m<L.length),L[m]'h=E m:=⟨fun m=>L.getD m .nil,fun m h=>by simp[List.getD,h]⟩
 have hxe:∀ m,m<n→Zn N w (E m) (elm 53 m xs):=fun m h=>by rw[←hE m (by omega)];exact hxe m (by omega)
 have hc:∀ m,m<n→Chg 92 (E m) (D m):=fun m h=>by rw[←hE m (by omega)];exact hc m (by omega)
 rw[←hnn]at hn hn0 hxl ⊢;have HX:=Hh (fun m (h:m<n) y (b:Below w.heap.size w y)=>Zn.below (Zn.mono (N:=N) (M:=fun k=>k<w.heap.size) (hxe m h) fun k hk _=>hk) b);have HC:=Hh hc;have hcl:=Hh (clone_Ac w N A0 n c0 xs hxl hn hw hx.one);have HD:=Hh hD;clear hxe hc hw hx hl hd hD hxl hE hnn;go_enter Tryz.func91,Tryz.ntmps91;go_wp2_with(first
 |(go_at_call 122;refine(hcl.out).mono ?_;rintro e w1 ⟨v1,rfl,ho,b1⟩;obtain⟨A,c,rfl,hcp,gb,hgb,hA⟩:=own_gb ho;have T0:Hid (ChM w 58 53 n gb A c D xs 0 w1):=Hh ⟨⟨xs,ho,fun j hj=>absurd hj (Nat.not_lt_zero _),fun j _ _=>rfl⟩,Zq.of_below b1⟩;clear ho b1))
 have l63:(n:Int)≤9223372036854775807:=by omega
 go_loopw [10] (fun i wr=>∃ m:Nat,i=.int .i64 m∧m≤n∧ChM w 58 53 n gb A c D xs m wr) (fun i _=>n - (intOf i).toNat)
 case atStart=>exact⟨0,by go_num,Nat.zero_le _,T0.out⟩
 case round=>
  obtain⟨m,rfl,hm,hT⟩:=hrel;by_cases hlt:m<n
  · obtain rfl:=hA (by omega)
    obtain⟨pre,post,hp,hW,hnx⟩:=hT.next hlt hgb HD.out;have hcall:=Hh (HC.out m hlt wr w.heap.size gb (m*53) 58 pre post _ hp.symm hgb hW (HX.out m hlt wr (hT.keep.below (Nat.le_refl _) (fun k h=>h))));have HNX:=Hh hnx;clear hp hW hnx hT;have lk:(m:Int)<(n:Int):=by omega
    go_wp2_with(first
 |(go_at_call 92;refine(hcall.out).mono ?_;intro e wn he;obtain⟨rfl,hT⟩:=HNX.out e wn he;clear he))
    go_roundw
    case rel=>exact⟨m+1,by go_num,by omega,hT⟩
    case measure=>simp[intOf];omega
  · obtain rfl:m=n:=by omega
    have lk:¬(m:Int)<(m:Int):=by omega
    obtain⟨⟨zs,g1,g2,g3⟩,hk⟩:=hT;go_wp2
    go_ret;have g4:∀ j,j<m→D j w.heap.size wr (elm 53 j zs):=fun j hj=>(HD.out j).mono (b:=gb+1) (g2 j hj) (by omega)
    have g5:=hk.below (Nat.le_refl _) (fun k h=>h);exact⟨_,rfl,zs,g1,g4,g5⟩
theorem chg_Ru(w:World)(N:Nat→Prop)(v:Value)(L:List Ds)(D:Nat→Nat→World→List Value→Prop)(hl:∀ d ∈ L,d.len=5)(hn:L.length≤1000000)(hd:Zn N w (.row L.length (dsL L) .nil) [v])
  (hD:∀ j,Stb (D j) 5)(hc:∀ m (h:m<L.length),Chg 66 (L[m]'h) (D m)) :
  Calls Tryz.prog 65 #[v,.func (.func 66) #[] #[]] w fun e w'=>∃ v' zs,e=.returned v'∧w'.ownsRow w.heap.size 46 5 v' L.length zs∧(∀ m,m<L.length→D m w.heap.size w' (elm 5 m zs))∧Below w.heap.size w w':=by
 obtain⟨A0,c0,xs,rfl,hn0,hw,hx⟩:=hd.inRow;obtain⟨hxl,hxe⟩:=Zlw hx hl;obtain⟨n,hnn⟩:∃ n,n=L.length:=⟨_,rfl⟩
 obtain⟨E,hE⟩:∃ E:Nat→Ds,∀ m (h:m<L.length),L[m]'h=E m:=⟨fun m=>L.getD m .nil,fun m h=>by simp[List.getD,h]⟩
 have hxe:∀ m,m<n→Zn N w (E m) (elm 5 m xs):=fun m h=>by rw[←hE m (by omega)];exact hxe m (by omega)
 have hc:∀ m,m<n→Chg 66 (E m) (D m):=fun m h=>by rw[←hE m (by omega)];exact hc m (by omega)
 rw[←hnn]at hn hn0 hxl ⊢;have HX:=Hh (fun m (h:m<n) y (b:Below w.heap.size w y)=>Zn.below (Zn.mono (N:=N) (M:=fun k=>k<w.heap.size) (hxe m h) fun k hk _=>hk) b);have HC:=Hh hc;have hcl:=Hh (clone_Ru w N A0 n c0 xs hxl hn hw hx.one);have HD:=Hh hD;clear hxe hc hw hx hl hd hD hxl hE hnn;go_enter Tryz.func65,Tryz.ntmps65;go_wp2_with(first
 |(go_at_call 90;refine(hcl.out).mono ?_;rintro e w1 ⟨v1,rfl,ho,b1⟩;obtain⟨A,c,rfl,hcp,gb,hgb,hA⟩:=own_gb ho;have T0:Hid (ChM w 46 5 n gb A c D xs 0 w1):=Hh ⟨⟨xs,ho,fun j hj=>absurd hj (Nat.not_lt_zero _),fun j _ _=>rfl⟩,Zq.of_below b1⟩;clear ho b1))
 have l63:(n:Int)≤9223372036854775807:=by omega
 go_loopw [10] (fun i wr=>∃ m:Nat,i=.int .i64 m∧m≤n∧ChM w 46 5 n gb A c D xs m wr) (fun i _=>n - (intOf i).toNat)
 case atStart=>exact⟨0,by go_num,Nat.zero_le _,T0.out⟩
 case round=>
  obtain⟨m,rfl,hm,hT⟩:=hrel;by_cases hlt:m<n
  · obtain rfl:=hA (by omega)
    obtain⟨pre,post,hp,hW,hnx⟩:=hT.next hlt hgb HD.out;have hcall:=Hh (HC.out m hlt wr w.heap.size gb (m*5) 46 pre post _ hp.symm hgb hW (HX.out m hlt wr (hT.keep.below (Nat.le_refl _) (fun k h=>h))));have HNX:=Hh hnx;clear hp hW hnx hT;have lk:(m:Int)<(n:Int):=by omega
    go_wp2_with(first
 |(go_at_call 66;refine(hcall.out).mono ?_;intro e wn he;obtain⟨rfl,hT⟩:=HNX.out e wn he;clear he))
    go_roundw
    case rel=>exact⟨m+1,by go_num,by omega,hT⟩
    case measure=>simp[intOf];omega
  · obtain rfl:m=n:=by omega
    have lk:¬(m:Int)<(m:Int):=by omega
    obtain⟨⟨zs,g1,g2,g3⟩,hk⟩:=hT;go_wp2
    go_ret;have g4:∀ j,j<m→D j w.heap.size wr (elm 5 j zs):=fun j hj=>(HD.out j).mono (b:=gb+1) (g2 j hj) (by omega)
    have g5:=hk.below (Nat.le_refl _) (fun k h=>h);exact⟨_,rfl,zs,g1,g4,g5⟩
theorem chg_Ca(w:World)(N:Nat→Prop)(v:Value)(L:List Ds)(D:Nat→Nat→World→List Value→Prop)(hl:∀ d ∈ L,d.len=6)(hn:L.length≤1000000)(hd:Zn N w (.row L.length (dsL L) .nil) [v])
  (hD:∀ j,Stb (D j) 6)(hc:∀ m (h:m<L.length),Chg 36 (L[m]'h) (D m)) :
  Calls Tryz.prog 35 #[v,.func (.func 36) #[] #[]] w fun e w'=>∃ v' zs,e=.returned v'∧w'.ownsRow w.heap.size 35 6 v' L.length zs∧(∀ m,m<L.length→D m w.heap.size w' (elm 6 m zs))∧Below w.heap.size w w':=by
 obtain⟨A0,c0,xs,rfl,hn0,hw,hx⟩:=hd.inRow;obtain⟨hxl,hxe⟩:=Zlw hx hl;obtain⟨n,hnn⟩:∃ n,n=L.length:=⟨_,rfl⟩
 obtain⟨E,hE⟩:∃ E:Nat→Ds,∀ m (h:m<L.length),L[m]'h=E m:=⟨fun m=>L.getD m .nil,fun m h=>by simp[List.getD,h]⟩
 have hxe:∀ m,m<n→Zn N w (E m) (elm 6 m xs):=fun m h=>by rw[←hE m (by omega)];exact hxe m (by omega)
 have hc:∀ m,m<n→Chg 36 (E m) (D m):=fun m h=>by rw[←hE m (by omega)];exact hc m (by omega)
 rw[←hnn]at hn hn0 hxl ⊢;have HX:=Hh (fun m (h:m<n) y (b:Below w.heap.size w y)=>Zn.below (Zn.mono (N:=N) (M:=fun k=>k<w.heap.size) (hxe m h) fun k hk _=>hk) b);have HC:=Hh hc;have hcl:=Hh (clone_Ca w N A0 n c0 xs hxl hn hw hx.one);have HD:=Hh hD;clear hxe hc hw hx hl hd hD hxl hE hnn;go_enter Tryz.func35,Tryz.ntmps35;go_wp2_with(first
 |(go_at_call 64;refine(hcl.out).mono ?_;rintro e w1 ⟨v1,rfl,ho,b1⟩;obtain⟨A,c,rfl,hcp,gb,hgb,hA⟩:=own_gb ho;have T0:Hid (ChM w 35 6 n gb A c D xs 0 w1):=Hh ⟨⟨xs,ho,fun j hj=>absurd hj (Nat.not_lt_zero _),fun j _ _=>rfl⟩,Zq.of_below b1⟩;clear ho b1))
 have l63:(n:Int)≤9223372036854775807:=by omega
 go_loopw [10] (fun i wr=>∃ m:Nat,i=.int .i64 m∧m≤n∧ChM w 35 6 n gb A c D xs m wr) (fun i _=>n - (intOf i).toNat)
 case atStart=>exact⟨0,by go_num,Nat.zero_le _,T0.out⟩
 case round=>
  obtain⟨m,rfl,hm,hT⟩:=hrel;by_cases hlt:m<n
  · obtain rfl:=hA (by omega)
    obtain⟨pre,post,hp,hW,hnx⟩:=hT.next hlt hgb HD.out;have hcall:=Hh (HC.out m hlt wr w.heap.size gb (m*6) 35 pre post _ hp.symm hgb hW (HX.out m hlt wr (hT.keep.below (Nat.le_refl _) (fun k h=>h))));have HNX:=Hh hnx;clear hp hW hnx hT;have lk:(m:Int)<(n:Int):=by omega
    go_wp2_with(first
 |(go_at_call 36;refine(hcall.out).mono ?_;intro e wn he;obtain⟨rfl,hT⟩:=HNX.out e wn he;clear he))
    go_roundw
    case rel=>exact⟨m+1,by go_num,by omega,hT⟩
    case measure=>simp[intOf];omega
  · obtain rfl:m=n:=by omega
    have lk:¬(m:Int)<(m:Int):=by omega
    obtain⟨⟨zs,g1,g2,g3⟩,hk⟩:=hT;go_wp2
    go_ret;have g4:∀ j,j<m→D j w.heap.size wr (elm 6 j zs):=fun j hj=>(HD.out j).mono (b:=gb+1) (g2 j hj) (by omega)
    have g5:=hk.below (Nat.le_refl _) (fun k h=>h);exact⟨_,rfl,zs,g1,g4,g5⟩
theorem chg_Pl(w:World)(N:Nat→Prop)(v:Value)(L:List Ds)(D:Nat→Nat→World→List Value→Prop)(hl:∀ d ∈ L,d.len=4)(hn:L.length≤1000000)(hd:Zn N w (.row L.length (dsL L) .nil) [v])
  (hD:∀ j,Stb (D j) 4)(hc:∀ m (h:m<L.length),Chg 38 (L[m]'h) (D m)) :
  Calls Tryz.prog 37 #[v,.func (.func 38) #[] #[]] w fun e w'=>∃ v' zs,e=.returned v'∧w'.ownsRow w.heap.size 38 4 v' L.length zs∧(∀ m,m<L.length→D m w.heap.size w' (elm 4 m zs))∧Below w.heap.size w w':=by
 obtain⟨A0,c0,xs,rfl,hn0,hw,hx⟩:=hd.inRow;obtain⟨hxl,hxe⟩:=Zlw hx hl;obtain⟨n,hnn⟩:∃ n,n=L.length:=⟨_,rfl⟩
 obtain⟨E,hE⟩:∃ E:Nat→Ds,∀ m (h:m<L.length),L[m]'h=E m:=⟨fun m=>L.getD m .nil,fun m h=>by simp[List.getD,h]⟩
 have hxe:∀ m,m<n→Zn N w (E m) (elm 4 m xs):=fun m h=>by rw[←hE m (by omega)];exact hxe m (by omega)
 have hc:∀ m,m<n→Chg 38 (E m) (D m):=fun m h=>by rw[←hE m (by omega)];exact hc m (by omega)
 rw[←hnn]at hn hn0 hxl ⊢;have HX:=Hh (fun m (h:m<n) y (b:Below w.heap.size w y)=>Zn.below (Zn.mono (N:=N) (M:=fun k=>k<w.heap.size) (hxe m h) fun k hk _=>hk) b);have HC:=Hh hc;have hcl:=Hh (clone_Pl w N A0 n c0 xs hxl hn hw hx.one);have HD:=Hh hD;clear hxe hc hw hx hl hd hD hxl hE hnn;go_enter Tryz.func37,Tryz.ntmps37;go_wp2_with(first
 |(go_at_call 67;refine(hcl.out).mono ?_;rintro e w1 ⟨v1,rfl,ho,b1⟩;obtain⟨A,c,rfl,hcp,gb,hgb,hA⟩:=own_gb ho;have T0:Hid (ChM w 38 4 n gb A c D xs 0 w1):=Hh ⟨⟨xs,ho,fun j hj=>absurd hj (Nat.not_lt_zero _),fun j _ _=>rfl⟩,Zq.of_below b1⟩;clear ho b1))
 have l63:(n:Int)≤9223372036854775807:=by omega
 go_loopw [10] (fun i wr=>∃ m:Nat,i=.int .i64 m∧m≤n∧ChM w 38 4 n gb A c D xs m wr) (fun i _=>n - (intOf i).toNat)
 case atStart=>exact⟨0,by go_num,Nat.zero_le _,T0.out⟩
 case round=>
  obtain⟨m,rfl,hm,hT⟩:=hrel;by_cases hlt:m<n
  · obtain rfl:=hA (by omega)
    obtain⟨pre,post,hp,hW,hnx⟩:=hT.next hlt hgb HD.out;have hcall:=Hh (HC.out m hlt wr w.heap.size gb (m*4) 38 pre post _ hp.symm hgb hW (HX.out m hlt wr (hT.keep.below (Nat.le_refl _) (fun k h=>h))));have HNX:=Hh hnx;clear hp hW hnx hT;have lk:(m:Int)<(n:Int):=by omega
    go_wp2_with(first
 |(go_at_call 38;refine(hcall.out).mono ?_;intro e wn he;obtain⟨rfl,hT⟩:=HNX.out e wn he;clear he))
    go_roundw
    case rel=>exact⟨m+1,by go_num,by omega,hT⟩
    case measure=>simp[intOf];omega
  · obtain rfl:m=n:=by omega
    have lk:¬(m:Int)<(m:Int):=by omega
    obtain⟨⟨zs,g1,g2,g3⟩,hk⟩:=hT;go_wp2
    go_ret;have g4:∀ j,j<m→D j w.heap.size wr (elm 4 j zs):=fun j hj=>(HD.out j).mono (b:=gb+1) (g2 j hj) (by omega)
    have g5:=hk.below (Nat.le_refl _) (fun k h=>h);exact⟨_,rfl,zs,g1,g4,g5⟩
end Go.Proofs.YtdngkgickbaboaaGreat
