/-
  No conditions but those that each theorem names.
-/
import Derived.Test.YtdngkgickbaboaaGreatQS19
import Derived.Test.YtdngkgickbaboaaGreatQS25
set_option maxRecDepth 20000
set_option maxHeartbeats 12800000
namespace Go.Proofs.YtdngkgickbaboaaGreat
open Go.Great Go.ChangeShapes Go.WideShapes Go.ChangeAt Go.RowKit
set_option linter.unusedVariables false
set_option linter.unusedSimpArgs false
theorem Zfq{P:Program}(w:World)(t e:TypeId)(a:Option Addr)(n c:Nat)(h:P.underlying t=some (.slice e)):(binOp .eql t (.slice a n c) (.slice none 0 0)).run P w=.ok (.bool a.isNone) w:=by
 have hh:∀ d,(Op.equalIn (d+1) t (.slice a n c) (.slice none 0 0)).run P w=.ok a.isNone w:=fun d=>by cases a<;>simp[Op.equalIn,run_underlying h]
 simp only[binOp];simp[Op.equal,Op.maxDepth,hh 9999]
theorem Zej(w:World)(t:TypeId)(sz:Nat):(w.alloc (.cells #[] t)).ownsRow w.heap.size t sz (.slice (some ⟨w.heap.size,0,none⟩) 0 0) 0 []:=
 ⟨by simp,.inr ⟨w.heap.size,0,#[],rfl,Nat.le_refl _,heap_alloc_new w _,Nat.le_refl _,by unfold maxLen;omega,by simp,by simp⟩⟩
theorem Vw.news{N:Nat→Prop}{w:World}{ad:Addr}{xs:List Value}(h:Vw N w (some ad) xs){w':World}(hb:Below w.heap.size w w'):∀ j u,xs[j]?=some u→w'.cell? (ad.add j)=some u:=by
 intro j u hu;rcases h with rfl | ⟨g,e,_,hg,hc⟩
 ·simp at hu
 ·injection e with e
  subst e;have hj:=(List.getElem?_eq_some_iff.1 hu).1;have:=hc j hj;rw[hu]at this;rw[show(⟨g,0,none⟩:Addr).add j=⟨g,j,none⟩from by simp[Addr.add];intro h;omega];exact(World.cell?_of_block (a:=⟨g,j,none⟩) (hb.block g hg)).trans this
theorem info_exZ:(Tryz.prog.info? 54).map (fun i=>(i.zero,i.size,i.bytes))=some (some (.agg #[.int .i64 0,.int .i64 0,.int .i64 0,.int .i64 0,.int .i64 0,.int .i64 0,.slice none 0 0,.int .i64 0,.int .i64 0,.int .i64 0,.int .i64 0,.slice none 0 0]),12,128):=by kernel_rfl
theorem clone_Fl(w:World)(N:Nat→Prop)(A:Option Addr)(n c:Nat)(xs:List Value)(hl:xs.length=n*4)(hn:n≤1000000)(hw:Vw N w A xs)(h1:∀ v ∈ xs,v.oneCell'=true) :
  Calls Tryz.prog 154 #[.slice A n c] w fun e w'=>∃ v,e=.returned v∧w'.ownsRow w.heap.size 174 4 v n xs∧Below w.heap.size w w':=by
 have HL:=Hh hl;have H1:=Hh h1;clear hl h1;have hq:=fun y=>Zfq (P:=Tryz.prog) y _ _ A n c Zbu
 cases A with
 |none=>
  simp only[Option.isNone_none]at hq;have hx:xs=[]:=by rcases hw with h | ⟨g,e,_⟩;exact h;cases e
  have hl:=HL.out;rw[hx]at hl;obtain rfl:n=0:=by simp at hl;omega
  subst hx;go_enter Tryz.func154,Tryz.ntmps154;go_wp2
  go_ret;exact⟨_,rfl,⟨by simp,.inl ⟨rfl,rfl⟩⟩,Below.refl _ _⟩
 |some ad=>
  simp only[Option.isNone_some]at hq;have HW:=Hh hw;clear hw;obtain⟨i,hi,hz,hsize,hbytes⟩:=info_parts Zdk;have HI:=Hh (And.intro hi (And.intro hz (And.intro hsize hbytes)));clear hi hz hsize hbytes;have hu:=Zbu;go_enter Tryz.func154,Tryz.ntmps154;go_wp2_with(first
 |((with_reducible refine Zd 7 ?_);refine wpList_append_own_at _ rfl (.tmp 5) (.tmp 6) _ rfl w.heap.size 174 i _ 4 _ Zbu HI.out.1 HI.out.2.1 HI.out.2.2.1 HI.out.2.2.2 rfl (by decide) _ 0 [] rfl (Zej w 174 4) ad n c xs rfl HL.out (HW.out.news (Zi _ _)) H1.out (by unfold maxLen;omega) (by omega) (by simp) ?_;intro v' wn hown hg _ _))
  go_ret;refine⟨_,rfl,by simpa using hown,?_⟩;exact(((Zq.refl (fun k=>w.heap.size≤k) w).alloc _).grown hg (fun k hk=>by injection hk with hk;rw[←hk];exact Nat.le_refl _)).below (Nat.le_refl _) (fun k h=>h)
theorem clone_Ex(w:World)(N:Nat→Prop)(A:Option Addr)(n c:Nat)(xs:List Value)(hl:xs.length=n*12)(hn:n≤1000000)(hw:Vw N w A xs)(h1:∀ v ∈ xs,v.oneCell'=true) :
  Calls Tryz.prog 178 #[.slice A n c] w fun e w'=>∃ v,e=.returned v∧w'.ownsRow w.heap.size 54 12 v n xs∧Below w.heap.size w w':=by
 have HL:=Hh hl;have H1:=Hh h1;clear hl h1;have hq:=fun y=>Zfq (P:=Tryz.prog) y _ _ A n c Zjw
 cases A with
 |none=>
  simp only[Option.isNone_none]at hq;have hx:xs=[]:=by rcases hw with h | ⟨g,e,_⟩;exact h;cases e
  have hl:=HL.out;rw[hx]at hl;obtain rfl:n=0:=by simp at hl;omega
  subst hx;go_enter Tryz.func178,Tryz.ntmps178;go_wp2
  go_ret;exact⟨_,rfl,⟨by simp,.inl ⟨rfl,rfl⟩⟩,Below.refl _ _⟩
 |some ad=>
  simp only[Option.isNone_some]at hq;have HW:=Hh hw;clear hw;obtain⟨i,hi,hz,hsize,hbytes⟩:=info_parts info_exZ;have HI:=Hh (And.intro hi (And.intro hz (And.intro hsize hbytes)));clear hi hz hsize hbytes;have hu:=Zjw;go_enter Tryz.func178,Tryz.ntmps178;go_wp2_with(first
 |((with_reducible refine Zd 7 ?_);refine wpList_append_own_at _ rfl (.tmp 5) (.tmp 6) _ rfl w.heap.size 54 i _ 12 _ Zjw HI.out.1 HI.out.2.1 HI.out.2.2.1 HI.out.2.2.2 rfl (by decide) _ 0 [] rfl (Zej w 54 12) ad n c xs rfl HL.out (HW.out.news (Zi _ _)) H1.out (by unfold maxLen;omega) (by omega) (by simp) ?_;intro v' wn hown hg _ _))
  go_ret;refine⟨_,rfl,by simpa using hown,?_⟩;exact(((Zq.refl (fun k=>w.heap.size≤k) w).alloc _).grown hg (fun k hk=>by injection hk with hk;rw[←hk];exact Nat.le_refl _)).below (Nat.le_refl _) (fun k h=>h)
theorem clone_Ac(w:World)(N:Nat→Prop)(A:Option Addr)(n c:Nat)(xs:List Value)(hl:xs.length=n*53)(hn:n≤1000000)(hw:Vw N w A xs)(h1:∀ v ∈ xs,v.oneCell'=true) :
  Calls Tryz.prog 122 #[.slice A n c] w fun e w'=>∃ v,e=.returned v∧w'.ownsRow w.heap.size 58 53 v n xs∧Below w.heap.size w w':=by
 have HL:=Hh hl;have H1:=Hh h1;clear hl h1;have hq:=fun y=>Zfq (P:=Tryz.prog) y _ _ A n c Zeo
 cases A with
 |none=>
  simp only[Option.isNone_none]at hq;have hx:xs=[]:=by rcases hw with h | ⟨g,e,_⟩;exact h;cases e
  have hl:=HL.out;rw[hx]at hl;obtain rfl:n=0:=by simp at hl;omega
  subst hx;go_enter Tryz.func122,Tryz.ntmps122;go_wp2
  go_ret;exact⟨_,rfl,⟨by simp,.inl ⟨rfl,rfl⟩⟩,Below.refl _ _⟩
 |some ad=>
  simp only[Option.isNone_some]at hq;have HW:=Hh hw;clear hw;obtain⟨i,hi,hz,hsize,hbytes⟩:=info_parts info_act;have HI:=Hh (And.intro hi (And.intro hz (And.intro hsize hbytes)));clear hi hz hsize hbytes;have hu:=Zeo;go_enter Tryz.func122,Tryz.ntmps122;go_wp2_with(first
 |((with_reducible refine Zd 7 ?_);refine wpList_append_own_at _ rfl (.tmp 5) (.tmp 6) _ rfl w.heap.size 58 i _ 53 _ Zeo HI.out.1 HI.out.2.1 HI.out.2.2.1 HI.out.2.2.2 rfl (by decide) _ 0 [] rfl (Zej w 58 53) ad n c xs rfl HL.out (HW.out.news (Zi _ _)) H1.out (by unfold maxLen;omega) (by omega) (by simp) ?_;intro v' wn hown hg _ _))
  go_ret;refine⟨_,rfl,by simpa using hown,?_⟩;exact(((Zq.refl (fun k=>w.heap.size≤k) w).alloc _).grown hg (fun k hk=>by injection hk with hk;rw[←hk];exact Nat.le_refl _)).below (Nat.le_refl _) (fun k h=>h)
theorem clone_Ru(w:World)(N:Nat→Prop)(A:Option Addr)(n c:Nat)(xs:List Value)(hl:xs.length=n*5)(hn:n≤1000000)(hw:Vw N w A xs)(h1:∀ v ∈ xs,v.oneCell'=true) :
  Calls Tryz.prog 90 #[.slice A n c] w fun e w'=>∃ v,e=.returned v∧w'.ownsRow w.heap.size 46 5 v n xs∧Below w.heap.size w w':=by
 have HL:=Hh hl;have H1:=Hh h1;clear hl h1;have hq:=fun y=>Zfq (P:=Tryz.prog) y _ _ A n c Zdz
 cases A with
 |none=>
  simp only[Option.isNone_none]at hq;have hx:xs=[]:=by rcases hw with h | ⟨g,e,_⟩;exact h;cases e
  have hl:=HL.out;rw[hx]at hl;obtain rfl:n=0:=by simp at hl;omega
  subst hx;go_enter Tryz.func90,Tryz.ntmps90;go_wp2
  go_ret;exact⟨_,rfl,⟨by simp,.inl ⟨rfl,rfl⟩⟩,Below.refl _ _⟩
 |some ad=>
  simp only[Option.isNone_some]at hq;have HW:=Hh hw;clear hw;obtain⟨i,hi,hz,hsize,hbytes⟩:=info_parts Zks;have HI:=Hh (And.intro hi (And.intro hz (And.intro hsize hbytes)));clear hi hz hsize hbytes;have hu:=Zdz;go_enter Tryz.func90,Tryz.ntmps90;go_wp2_with(first
 |((with_reducible refine Zd 7 ?_);refine wpList_append_own_at _ rfl (.tmp 5) (.tmp 6) _ rfl w.heap.size 46 i _ 5 _ Zdz HI.out.1 HI.out.2.1 HI.out.2.2.1 HI.out.2.2.2 rfl (by decide) _ 0 [] rfl (Zej w 46 5) ad n c xs rfl HL.out (HW.out.news (Zi _ _)) H1.out (by unfold maxLen;omega) (by omega) (by simp) ?_;intro v' wn hown hg _ _))
  go_ret;refine⟨_,rfl,by simpa using hown,?_⟩;exact(((Zq.refl (fun k=>w.heap.size≤k) w).alloc _).grown hg (fun k hk=>by injection hk with hk;rw[←hk];exact Nat.le_refl _)).below (Nat.le_refl _) (fun k h=>h)
theorem clone_Ca(w:World)(N:Nat→Prop)(A:Option Addr)(n c:Nat)(xs:List Value)(hl:xs.length=n*6)(hn:n≤1000000)(hw:Vw N w A xs)(h1:∀ v ∈ xs,v.oneCell'=true) :
  Calls Tryz.prog 64 #[.slice A n c] w fun e w'=>∃ v,e=.returned v∧w'.ownsRow w.heap.size 35 6 v n xs∧Below w.heap.size w w':=by
 have HL:=Hh hl;have H1:=Hh h1;clear hl h1;have hq:=fun y=>Zfq (P:=Tryz.prog) y _ _ A n c Zgh
 cases A with
 |none=>
  simp only[Option.isNone_none]at hq;have hx:xs=[]:=by rcases hw with h | ⟨g,e,_⟩;exact h;cases e
  have hl:=HL.out;rw[hx]at hl;obtain rfl:n=0:=by simp at hl;omega
  subst hx;go_enter Tryz.func64,Tryz.ntmps64;go_wp2
  go_ret;exact⟨_,rfl,⟨by simp,.inl ⟨rfl,rfl⟩⟩,Below.refl _ _⟩
 |some ad=>
  simp only[Option.isNone_some]at hq;have HW:=Hh hw;clear hw;obtain⟨i,hi,hz,hsize,hbytes⟩:=info_parts info_ca;have HI:=Hh (And.intro hi (And.intro hz (And.intro hsize hbytes)));clear hi hz hsize hbytes;have hu:=Zgh;go_enter Tryz.func64,Tryz.ntmps64;go_wp2_with(first
 |((with_reducible refine Zd 7 ?_);refine wpList_append_own_at _ rfl (.tmp 5) (.tmp 6) _ rfl w.heap.size 35 i _ 6 _ Zgh HI.out.1 HI.out.2.1 HI.out.2.2.1 HI.out.2.2.2 rfl (by decide) _ 0 [] rfl (Zej w 35 6) ad n c xs rfl HL.out (HW.out.news (Zi _ _)) H1.out (by unfold maxLen;omega) (by omega) (by simp) ?_;intro v' wn hown hg _ _))
  go_ret;refine⟨_,rfl,by simpa using hown,?_⟩;exact(((Zq.refl (fun k=>w.heap.size≤k) w).alloc _).grown hg (fun k hk=>by injection hk with hk;rw[←hk];exact Nat.le_refl _)).below (Nat.le_refl _) (fun k h=>h)
theorem clone_Pl(w:World)(N:Nat→Prop)(A:Option Addr)(n c:Nat)(xs:List Value)(hl:xs.length=n*4)(hn:n≤1000000)(hw:Vw N w A xs)(h1:∀ v ∈ xs,v.oneCell'=true) :
  Calls Tryz.prog 67 #[.slice A n c] w fun e w'=>∃ v,e=.returned v∧w'.ownsRow w.heap.size 38 4 v n xs∧Below w.heap.size w w':=by
 have HL:=Hh hl;have H1:=Hh h1;clear hl h1;have hq:=fun y=>Zfq (P:=Tryz.prog) y _ _ A n c Zgg
 cases A with
 |none=>
  simp only[Option.isNone_none]at hq;have hx:xs=[]:=by rcases hw with h | ⟨g,e,_⟩;exact h;cases e
  have hl:=HL.out;rw[hx]at hl;obtain rfl:n=0:=by simp at hl;omega
  subst hx;go_enter Tryz.func67,Tryz.ntmps67;go_wp2
  go_ret;exact⟨_,rfl,⟨by simp,.inl ⟨rfl,rfl⟩⟩,Below.refl _ _⟩
 |some ad=>
  simp only[Option.isNone_some]at hq;have HW:=Hh hw;clear hw;obtain⟨i,hi,hz,hsize,hbytes⟩:=info_parts info_pl;have HI:=Hh (And.intro hi (And.intro hz (And.intro hsize hbytes)));clear hi hz hsize hbytes;have hu:=Zgg;go_enter Tryz.func67,Tryz.ntmps67;go_wp2_with(first
 |((with_reducible refine Zd 7 ?_);refine wpList_append_own_at _ rfl (.tmp 5) (.tmp 6) _ rfl w.heap.size 38 i _ 4 _ Zgg HI.out.1 HI.out.2.1 HI.out.2.2.1 HI.out.2.2.2 rfl (by decide) _ 0 [] rfl (Zej w 38 4) ad n c xs rfl HL.out (HW.out.news (Zi _ _)) H1.out (by unfold maxLen;omega) (by omega) (by simp) ?_;intro v' wn hown hg _ _))
  go_ret;refine⟨_,rfl,by simpa using hown,?_⟩;exact(((Zq.refl (fun k=>w.heap.size≤k) w).alloc _).grown hg (fun k hk=>by injection hk with hk;rw[←hk];exact Nat.le_refl _)).below (Nat.le_refl _) (fun k h=>h)
end Go.Proofs.YtdngkgickbaboaaGreat
