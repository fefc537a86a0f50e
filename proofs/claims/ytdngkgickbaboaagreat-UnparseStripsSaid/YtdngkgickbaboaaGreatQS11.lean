/-
  No conditions but those that each theorem names.
-/
import Derived.OwnWalk
import Derived.Maps.AppendAt
import Derived.Test.YtdngkgickbaboaaGreatQS10
set_option maxRecDepth 20000
set_option maxHeartbeats 12800000
namespace Go.Proofs.YtdngkgickbaboaaGreat
open Go.ChangeShapes Go.WideShapes Go.ChangeAt Go.RowKit
set_option linter.unusedVariables false
set_option linter.unusedSimpArgs false
def remW(q c:Nat)(w:World):Nat:=
 match w.cell? ⟨q,0,none⟩with
 |some (.pointer (some _))=>match w.cell? ⟨c,0,none⟩with | some v=>lenV v | none=>0
 |_=>0
theorem PAt.rem{w:World}{q c r K:Nat}{L:List TokV}{st:St}(h:PAt w q c r K L st):remW q c w=Zu L st:=by
 have h0:=h.cell;cases st with
 |ok a d=>
  have h1:w.cell? ⟨q,0,none⟩=some (.pointer (some ⟨c,0,none⟩)):=h0;unfold remW;rw[h1];dsimp only;rw[(h.cur a d rfl).2.2.look.c0];rfl
 |bad F=>
  have h1:w.cell? ⟨q,0,none⟩=some (.pointer none):=h0;unfold remW;rw[h1];rfl
def Fl.cells(f:Fl):List Value:=[.int .i64 f.kind,.int .i64 f.op,.int .i64 f.n,.string f.name]
def Zdw(l:List Fl):List Value:=l.flatMap Fl.cells
theorem Zbg(l:List Fl)(f:Fl):Zdw (l++[f])=Zdw l++f.cells:=by unfold Zdw;simp
theorem Zbu:Tryz.prog.underlying 47=some (.slice 174):=by kernel_rfl
theorem Zdk:(Tryz.prog.info? 174).map (fun i=>(i.zero,i.size,i.bytes))=some (some (.agg #[.int .i64 0,.int .i64 0,.int .i64 0,.string ⟨#[]⟩]),4,40):=by kernel_rfl
theorem Zgm:(Tryz.prog.underlying 174).map TypeDesc.isRow=some true:=by kernel_rfl
theorem Zbd:(Tryz.prog.info? 174).map (·.size)=some 4:=by kernel_rfl
theorem Zhl:(Tryz.prog.info? 9).map (·.size)=some 1:=by kernel_rfl
structure Zhg(w:World)(q c r K:Nat)(L:List TokV)(e:TypeId)(sz:Nat)(st:St)(n:Nat)(xs:List Value)(v:Value)(wr:World):Prop where
 mv:Xx w wr q c r K L st
 row:wr.ownsRow w.heap.size e sz v n xs
 qin:q<w.heap.size
 cin:c<w.heap.size
 rin:r<w.heap.size
theorem Zhg.then{w x y:World}{q c r K n sz:Nat}{L:List TokV}{e:TypeId}{st st':St}{xs:List Value}{v:Value}(h:Zhg w q c r K L e sz st n xs v x)(m:Xx x y q c r K L st'):Zhg w q c r K L e sz st' n xs v y:=
 ⟨h.mv.then m,m.keeps.owns h.row (fun k hk c=>by have:=(h.row.lt k hk).1;have:=h.qin;have:=h.cin;omega),h.qin,h.cin,h.rin⟩
theorem Zhg.next{w x y:World}{q c r K n sz:Nat}{L:List TokV}{e:TypeId}{st:St}{xs:List Value}{v:Value}(h:Zhg w q c r K L e sz st n xs v x)(hb:Below x.heap.size x y):Zhg w q c r K L e sz st n xs v y:=
 ⟨h.mv.next hb,Un h.row hb,h.qin,h.cin,h.rin⟩
theorem Zhg.put{w x y:World}{q c r K n sz:Nat}{L:List TokV}{e t:TypeId}{st:St}{xs vs:List Value}{v:Value}(h:Zhg w q c r K L e sz st n xs v x){G:Nat}(p:Put x y G t vs)(hG:w.heap.size≤G)(hn:v.ownBlock≠some G):Zhg w q c r K L e sz st n xs v y:=
 ⟨h.mv.put p hG h.qin h.cin h.rin,p.keeps.owns h.row (fun k hk c=>hn (by rw[hk,c])),h.qin,h.cin,h.rin⟩
theorem Zhg.push{w x y:World}{q c r K n sz:Nat}{L:List TokV}{e:TypeId}{st:St}{xs ys:List Value}{v v':Value}(h:Zhg w q c r K L e sz st n xs v x)(ho:y.ownsRow w.heap.size e sz v' (n+1) ys)(hg:x.grownBy y v.ownBlock):Zhg w q c r K L e sz st (n+1) ys v' y:=by
 have hk:Zq (fun k=>v.ownBlock=some k) x y:=Zq.grown (Zq.refl _ _) hg fun k hk=>hk
 have hb:∀ k,v.ownBlock=some k→w.heap.size≤k:=fun k hk=>(h.row.lt k hk).1
 refine⟨⟨h.mv.at_.keeps hk (fun e=>?_) (fun e=>?_) (fun e=>?_),?_⟩,ho,h.qin,h.cin,h.rin⟩
 ·have:=hb _ e;have:=h.qin;omega
 ·have:=hb _ e;have:=h.cin;omega
 ·have:=hb _ e;have:=h.rin;omega
 ·have h1:Zq (fun k=>(k=q∨k=c)∨v.ownBlock=some k) w x:=h.mv.keeps.mono fun k h=>.inl h
  have h2:Zq (fun k=>(k=q∨k=c)∨v.ownBlock=some k) x y:=hk.mono fun k h=>.inr h
  exact(h1.trans h2).inner fun k hk' h=>h.elim id fun e=>by have:=hb k e;omega
theorem Zhg.fresh{w x:World}{q c r K n sz:Nat}{L:List TokV}{e:TypeId}{st:St}{xs:List Value}{v:Value}(h:Zhg w q c r K L e sz st n xs v x){G:Nat}(hG:x.heap.size≤G):v.ownBlock≠some G:=fun c=>by
 have:=(h.row.lt _ c).2;omega
theorem Zew(L:List TokV)(ws:List ByteArray)(st:St):Zh L ws st≤ws.length:=by
 cases st with
 |ok a d=>exact Zbw _ ws
 |bad F=>exact Nat.zero_le _
theorem meit_me(L:List TokV)(s:St)(h:isS L sMe s=true)(nk:Int):Wt nk L 4 s=(⟨4,0,0,⟨#[]⟩⟩,Xw L sMe s):=by
 obtain⟨h1,h2⟩:=Zkv L Vh s 0 (by decide) (fun j hj=>by omega) h;have h3:Zm L Vh s=Xw L sMe s:=by unfold Zm;rw[if_neg (by rw[h1];decide),h2];rfl
 show((⟨if Zh L Vh s=0 then nk else 3+(Zh L Vh s:Int),0,0,⟨#[]⟩⟩:Fl),Zm L Vh s)=_;rw[h1,h3];rfl
theorem meit_it(L:List TokV)(s:St)(h:isS L sMe s=false):Wt 5 L 4 s=(⟨5,0,0,⟨#[]⟩⟩,Zx L sIt s):=by
 show((⟨if Zh L Vh s=0 then 5 else 3+(Zh L Vh s:Int),0,0,⟨#[]⟩⟩:Fl),Zm L Vh s)=_;unfold Zx Zm;by_cases hi:isS L sIt s=true
 ·obtain⟨h1,h2⟩:=Zkv L Vh s 1 (by decide) (fun j hj=>(by have e:j=0:=(by omega);rw[e];exact h)) hi
  rw[if_pos hi,h1,h2];rfl
 ·have h1:=find_miss L Vh s (fun j hj=>by
   have hj':j<2:=hj;have:j=0∨j=1:=by omega
   rcases this with rfl | rfl
   ·exact h
   ·exact(by simpa using hi:isS L sIt s=false))
  rw[if_neg hi,h1];rfl
theorem Uj{P:Program}{ops:Array Oper}{rest:List Oper}{T:TypeId}{t:TypeId}{ps:String}{af:Array Edge}{gd:Option (Nat×Bool)}{a:Act}{w:World}{Q:Exit→Act→World→Prop}{x:Nat}{v:Value}
 (h:wpList P ops Q (⟨none,.store T (.tmp x) (.const v),t,ps,af,gd⟩::rest) a w):wpList P ops Q (⟨none,.store T (.tmp x) (.const v),t,ps,af,gd⟩::rest) a w:=h
def Zid(w:World)(q c r K:Nat)(L:List TokV)(x:List Fl×St)(e:Ending)(w':World):Prop:=
 ∃ v,e=.returned v∧Zhg w q c r K L 174 4 x.2 x.1.length (Zdw x.1) v w'
theorem Zkw(nk:Int)(L:List TokV)(m:Nat)(st:St)(h:¬ Zh L Yh st=0):Yc nk L (m+1) st =
  ((Wt nk L (Zh L Yh st) (Zz L Yh st)).1::(Yc nk L m (Wt nk L (Zh L Yh st) (Zz L Yh st)).2).1,(Yc nk L m (Wt nk L (Zh L Yh st) (Zz L Yh st)).2).2):=by
 rw[Yc,if_neg h]
theorem Zgt(nk:Int)(L:List TokV)(m:Nat)(st:St)(h:Zh L Yh st=0):Yc nk L (m+1) st=([],st):=by
 rw[Yc,if_pos h]
theorem xfilters(w:World)(q c r K:Nat)(L:List TokV)(st:St)(n:Nat)(h:PAt w q c r K L st)(hn:Zu L st+1≤n)(hLn:Zu L st≤68719476736) :
  Calls Tryz.prog 169 #[.pointer (some ⟨q,0,none⟩)] w (Zid w q c r K L (Yc 5 L n st)):=by
 have H0:=Hh (show Zhg w q c r K L 174 4 st 0 [] (.slice none 0 0) w from⟨Xx.start h,World.ownsRow_nil _ _ _ _,h.whole.inside,h.cin,h.rin⟩);have HN:=Hh hn;have HL:=Hh hLn;clear hn h hLn;go_enter Tryz.func169,Tryz.ntmps169;go_wp2
 go_loopw [3] (fun v wr=>∃(m:Nat)(acc:List Fl)(s:St),Zhg w q c r K L 174 4 s acc.length (Zdw acc) v wr∧Zu L s+1≤m∧acc.length+Zu L s≤Zu L st∧Yc 5 L n st=(acc++(Yc 5 L m s).1,(Yc 5 L m s).2)) (fun _ wr=>remW q c wr)
 case atStart=>exact⟨n,[],st,H0.out,HN.out,by simp,by simp⟩
 case round=>
  obtain⟨m,acc,s,hR,hm,hacc,heq⟩:=hrel;obtain⟨m,rfl⟩:∃ m',m=m'+1:=⟨m - 1,by omega⟩
  obtain⟨A,cp,rfl,_,_,_⟩:=Xd hR.row;have hrem:=hR.mv.at_.rem;have hf:=xfindB _ q c r K _ L s Yh 4 4 _ rfl rfl hR.mv.at_ rfl (by decide);have hle:=Zew L Yh s;have hz:=hR.mv.keeps.size;have hfr:=Vc (L:=L) (ws:=Yh) (st:=s);have hfn:=Uz L (ws:=Yh) (st:=s);have hst:=Zkw 5 L m s;have hsp:=Zgt 5 L m s;have hrf:=Zjj L 5 (Zh L Yh s) (Zz L Yh s);generalize hk:Zh L Yh s=k at *;generalize hs1:Zz L Yh s=s1 at *;have R0:=Hh hR;have HA:=Hh (And.intro hacc (And.intro hm (And.intro hrem hfr)));have HE:=Hh heq;have HS:=Hh (And.intro hst (And.intro hsp (And.intro hfn hrf)));clear hR hm hacc heq hrem hfr hst hsp hfn hrf hk hs1;have hle4:k≤4:=hle;clear hle;have h5:k=0∨k=1∨k=2∨k=3∨k=4:=by omega
  clear hle4;rcases h5 with rfl | rfl | rfl | rfl | rfl
  · rw[show((0:Nat):Int)=0 from rfl]at hf
    go_wp2_with(first
 |(go_at_call 75;refine hf.mono ?_;rintro e w1 ⟨rfl,m1⟩
   have nb:=Zi w1 (.cells #[.int .i64 0,.int .i64 0,.int .i64 0,.string ⟨#[]⟩] 174);have hcell:=(m1.at_.below nb).cell;have hz1:w.heap.size≤w1.heap.size:=by have:=m1.keeps.size;omega
   have G1:=Hh (Zf.made w1 174 #[.int .i64 0,.int .i64 0,.int .i64 0,.string ⟨#[]⟩]);have R1:=Hh ((R0.out.then m1).next nb)
   have V1:=Hh ((R0.out.then m1).fresh (Nat.le_refl w1.heap.size));clear m1 nb))
    go_ret;have hs:=HS.out.2.2.1 (by first | rfl | trivial);refine⟨_,rfl,?_⟩;rw[HE.out,HS.out.2.1 (by first | rfl | trivial)];have R:=R1.out;rw[hs]at R;simpa using R
  · rw[show((1:Nat):Int)=1 from rfl]at hf
    have HF:=Hh (show Wt 5 L 1 s1=((⟨1,Zh L wOp s1,Jv L (Zm L wOp s1),⟨#[]⟩⟩:Fl),Uv L (Zm L wOp s1))from rfl);generalize hop:Zh L wOp s1=op at *;generalize hs2:Zm L wOp s1=s2 at *;generalize hsg:Jv L s2=sg at *;have hopc:∀ w,PAt w q c r K L s1→Calls Tryz.prog 187 #[.pointer (some ⟨q,0,none⟩)] w (Xm w q c r K L s2 (.int .i64 (op:Int))):=fun w h=>by rw[←hop,←hs2];exact xop w q c r K L s1 h
    have hrd:∀ w,PAt w q c r K L s2→Calls Tryz.prog 133 #[.pointer (some ⟨q,0,none⟩),.func (.func 134) #[Vx c s2] #[]] w (Xm w q c r K L (Uv L s2) (.int .i64 sg)):=fun w h=>by rw[←hsg];exact Zhh w q c r K L s2 h
    clear hop hs2 hsg;go_wp2_with(first
 |(go_at_call 75;refine hf.mono ?_;rintro e w1 ⟨rfl,m1⟩
   have nb:=Zi w1 (.cells #[.int .i64 1,.int .i64 0,.int .i64 0,.string ⟨#[]⟩] 174);have hcell:=(m1.at_.below nb).cell;have hz1:w.heap.size≤w1.heap.size:=by have:=m1.keeps.size;omega
   have G1:=Hh (Zf.made w1 174 #[.int .i64 1,.int .i64 0,.int .i64 0,.string ⟨#[]⟩]);have R1:=Hh ((R0.out.then m1).next nb);have V1:=Hh ((R0.out.then m1).fresh (Nat.le_refl w1.heap.size));clear m1 nb)
 |(go_at_call 187;refine(hopc _ R1.out.mv.at_).mono ?_;rintro e w2 ⟨rfl,m2⟩
   have hz2:w1.heap.size+1≤w2.heap.size:=by have:=m2.keeps.size;(try simp at this);omega
   have G2:=Hh (m2.keeps.whole G1.out (by have:=R1.out.qin;have:=R1.out.cin;omega));have R2:=Hh (R1.out.then m2);have hcell:=R2.out.mv.at_.cell;clear m2)
 |((with_reducible refine Zg 17 16 ?_);refine Zj 3 _ _ 174 w1.heap.size 1 [.int .i64 1] (.int .i64 0) (.int .i64 (op:Int)) [.int .i64 0,.string ⟨#[]⟩] G2.out rfl Yb rfl rfl rfl rfl rfl rfl ?_
   intro w3 p3;have G3:=Hh (show Zf w3 w1.heap.size 174 [.int .i64 1,.int .i64 (op:Int),.int .i64 0,.string ⟨#[]⟩].toArray from p3.whole);have R3:=Hh (R2.out.put p3 hz1 V1.out);have hcell:=R3.out.mv.at_.cell;have hz3:=Nat.le_trans hz2 p3.keeps.size;clear p3)
 |(go_at_call 133;refine(hrd _ R3.out.mv.at_).mono ?_;rintro e w4 ⟨rfl,m4⟩
   have hz4:=Nat.le_trans hz3 m4.keeps.size;have G4:=Hh (m4.keeps.whole G3.out (by have:=R3.out.qin;have:=R3.out.cin;omega));have R4:=Hh (R3.out.then m4);have hcell:=R4.out.mv.at_.cell;clear m4)
 |((with_reducible refine Zg 25 24 ?_);refine Zj 3 _ _ 174 w1.heap.size 2 [.int .i64 1,.int .i64 (op:Int)] (.int .i64 0) (.int .i64 sg) [.string ⟨#[]⟩] G4.out rfl Yb rfl rfl rfl rfl rfl rfl ?_
   intro w5 p5;have G5:=Hh (show Zf w5 w1.heap.size 174 [.int .i64 1,.int .i64 (op:Int),.int .i64 sg,.string ⟨#[]⟩].toArray from p5.whole);have R5:=Hh (R4.out.put p5 hz1 V1.out);have hcell:=R5.out.mv.at_.cell;have hz5:=Nat.le_trans hz4 p5.keeps.size;clear p5)
 |((with_reducible refine Zd 48 ?_);refine Zb 174 _ 174 w1.heap.size _ G5.out Zgm Zbd rfl rfl rfl ?_)
 |(at_builtin;refine Wi (.tmp 47) (.tmp 49) 47 174 4 40 _ Zbu Zdk rfl (by decide) (by decide) w.heap.size (.slice A acc.length cp) acc.length (Zdw acc) [.int .i64 1,.int .i64 (op:Int),.int .i64 sg,.string ⟨#[]⟩] (Un R5.out.row (Zi w5 (.cells [.int .i64 1,.int .i64 (op:Int),.int .i64 sg,.string ⟨#[]⟩].toArray 174))) w5.heap.size (Zf.made _ _ _) rfl (by simp[Value.oneCell']) (by have:=HA.out.1;have:=HL.out;omega) (by simp;omega) rfl rfl rfl rfl ?_
   intro v9 w9 o9 g9 at9
   have R9:=Hh ((R5.out.next (Zi w5 (.cells [.int .i64 1,.int .i64 (op:Int),.int .i64 sg,.string ⟨#[]⟩].toArray 174))).push o9 g9);clear o9 g9 at9))
    go_roundw
    case rel=>
     refine⟨m,acc++[⟨1,op,sg,⟨#[]⟩⟩],Uv L s2,?_,?_,?_,?_⟩
     ·rw[List.length_append,Zbg];exact R9.out
     ·have:=HA.out.2.1;have:=HA.out.2.2.2 (by decide);have h4:=HS.out.2.2.2;rw[HF.out]at h4;dsimp only at h4;omega
     ·have:=HA.out.1;have:=HA.out.2.2.2 (by decide);have h4:=HS.out.2.2.2;rw[HF.out]at h4;dsimp only at h4;rw[List.length_append];simp only[List.length_cons,List.length_nil];omega
     ·rw[HE.out,HS.out.1 (by decide),HF.out];simp
    case measure=>
     have h1:=R9.out.mv.at_.rem;have h2:=HA.out.2.2.1;have:=HA.out.2.2.2 (by decide);have h4:=HS.out.2.2.2;rw[HF.out]at h4;dsimp only at h4;rw[h1,h2];omega
  · rw[show((2:Nat):Int)=2 from rfl]at hf
    have HF:=Hh (show Wt 5 L 2 s1=((⟨2,Zh L wOp s1,Jv L (Zm L wOp s1),⟨#[]⟩⟩:Fl),Uv L (Zm L wOp s1))from rfl);generalize hop:Zh L wOp s1=op at *;generalize hs2:Zm L wOp s1=s2 at *;generalize hsg:Jv L s2=sg at *;have hopc:∀ w,PAt w q c r K L s1→Calls Tryz.prog 187 #[.pointer (some ⟨q,0,none⟩)] w (Xm w q c r K L s2 (.int .i64 (op:Int))):=fun w h=>by rw[←hop,←hs2];exact xop w q c r K L s1 h
    have hrd:∀ w,PAt w q c r K L s2→Calls Tryz.prog 133 #[.pointer (some ⟨q,0,none⟩),.func (.func 134) #[Vx c s2] #[]] w (Xm w q c r K L (Uv L s2) (.int .i64 sg)):=fun w h=>by rw[←hsg];exact Zhh w q c r K L s2 h
    clear hop hs2 hsg;go_wp2_with(first
 |(go_at_call 75;refine hf.mono ?_;rintro e w1 ⟨rfl,m1⟩
   have nb:=Zi w1 (.cells #[.int .i64 2,.int .i64 0,.int .i64 0,.string ⟨#[]⟩] 174);have hcell:=(m1.at_.below nb).cell;have hz1:w.heap.size≤w1.heap.size:=by have:=m1.keeps.size;omega
   have G1:=Hh (Zf.made w1 174 #[.int .i64 2,.int .i64 0,.int .i64 0,.string ⟨#[]⟩]);have R1:=Hh ((R0.out.then m1).next nb);have V1:=Hh ((R0.out.then m1).fresh (Nat.le_refl w1.heap.size));clear m1 nb)
 |(go_at_call 187;refine(hopc _ R1.out.mv.at_).mono ?_;rintro e w2 ⟨rfl,m2⟩
   have hz2:w1.heap.size+1≤w2.heap.size:=by have:=m2.keeps.size;(try simp at this);omega
   have G2:=Hh (m2.keeps.whole G1.out (by have:=R1.out.qin;have:=R1.out.cin;omega));have R2:=Hh (R1.out.then m2);have hcell:=R2.out.mv.at_.cell;clear m2)
 |((with_reducible refine Zg 17 16 ?_);refine Zj 3 _ _ 174 w1.heap.size 1 [.int .i64 2] (.int .i64 0) (.int .i64 (op:Int)) [.int .i64 0,.string ⟨#[]⟩] G2.out rfl Yb rfl rfl rfl rfl rfl rfl ?_
   intro w3 p3;have G3:=Hh (show Zf w3 w1.heap.size 174 [.int .i64 2,.int .i64 (op:Int),.int .i64 0,.string ⟨#[]⟩].toArray from p3.whole);have R3:=Hh (R2.out.put p3 hz1 V1.out);have hcell:=R3.out.mv.at_.cell;have hz3:=Nat.le_trans hz2 p3.keeps.size;clear p3)
 |(go_at_call 133;refine(hrd _ R3.out.mv.at_).mono ?_;rintro e w4 ⟨rfl,m4⟩
   have hz4:=Nat.le_trans hz3 m4.keeps.size;have G4:=Hh (m4.keeps.whole G3.out (by have:=R3.out.qin;have:=R3.out.cin;omega));have R4:=Hh (R3.out.then m4);have hcell:=R4.out.mv.at_.cell;clear m4)
 |((with_reducible refine Zg 25 24 ?_);refine Zj 3 _ _ 174 w1.heap.size 2 [.int .i64 2,.int .i64 (op:Int)] (.int .i64 0) (.int .i64 sg) [.string ⟨#[]⟩] G4.out rfl Yb rfl rfl rfl rfl rfl rfl ?_
   intro w5 p5;have G5:=Hh (show Zf w5 w1.heap.size 174 [.int .i64 2,.int .i64 (op:Int),.int .i64 sg,.string ⟨#[]⟩].toArray from p5.whole);have R5:=Hh (R4.out.put p5 hz1 V1.out);have hcell:=R5.out.mv.at_.cell;have hz5:=Nat.le_trans hz4 p5.keeps.size;clear p5)
 |((with_reducible refine Zd 48 ?_);refine Zb 174 _ 174 w1.heap.size _ G5.out Zgm Zbd rfl rfl rfl ?_)
 |(at_builtin;refine Wi (.tmp 47) (.tmp 49) 47 174 4 40 _ Zbu Zdk rfl (by decide) (by decide) w.heap.size (.slice A acc.length cp) acc.length (Zdw acc) [.int .i64 2,.int .i64 (op:Int),.int .i64 sg,.string ⟨#[]⟩] (Un R5.out.row (Zi w5 (.cells [.int .i64 2,.int .i64 (op:Int),.int .i64 sg,.string ⟨#[]⟩].toArray 174))) w5.heap.size (Zf.made _ _ _) rfl (by simp[Value.oneCell']) (by have:=HA.out.1;have:=HL.out;omega) (by simp;omega) rfl rfl rfl rfl ?_
   intro v9 w9 o9 g9 at9
   have R9:=Hh ((R5.out.next (Zi w5 (.cells [.int .i64 2,.int .i64 (op:Int),.int .i64 sg,.string ⟨#[]⟩].toArray 174))).push o9 g9);clear o9 g9 at9))
    go_roundw
    case rel=>
     refine⟨m,acc++[⟨2,op,sg,⟨#[]⟩⟩],Uv L s2,?_,?_,?_,?_⟩
     ·rw[List.length_append,Zbg];exact R9.out
     ·have:=HA.out.2.1;have:=HA.out.2.2.2 (by decide);have h4:=HS.out.2.2.2;rw[HF.out]at h4;dsimp only at h4;omega
     ·have:=HA.out.1;have:=HA.out.2.2.2 (by decide);have h4:=HS.out.2.2.2;rw[HF.out]at h4;dsimp only at h4;rw[List.length_append];simp only[List.length_cons,List.length_nil];omega
     ·rw[HE.out,HS.out.1 (by decide),HF.out];simp
    case measure=>
     have h1:=R9.out.mv.at_.rem;have h2:=HA.out.2.2.1;have:=HA.out.2.2.2 (by decide);have h4:=HS.out.2.2.2;rw[HF.out]at h4;dsimp only at h4;rw[h1,h2];omega
  · rw[show((3:Nat):Int)=3 from rfl]at hf
    have HF:=Hh (show Wt 5 L 3 s1=((⟨3,0,0,Zbl L s1⟩:Fl),Wo L s1)from rfl);generalize hnm:Zbl L s1=nm at *;have hrd:∀ w,PAt w q c r K L s1→Calls Tryz.prog 188 #[.pointer (some ⟨q,0,none⟩),.func (.func 189) #[Vx c s1] #[]] w (Xm w q c r K L (Wo L s1) (.string nm)):=fun w h=>by rw[←hnm];exact xreadName w q c r K L s1 h
    clear hnm;go_wp2_with(first
 |(go_at_call 75;refine hf.mono ?_;rintro e w1 ⟨rfl,m1⟩
   have nb:=Zi w1 (.cells #[.int .i64 3,.int .i64 0,.int .i64 0,.string ⟨#[]⟩] 174);have hcell:=(m1.at_.below nb).cell;have hz1:w.heap.size≤w1.heap.size:=by have:=m1.keeps.size;omega
   have G1:=Hh (Zf.made w1 174 #[.int .i64 3,.int .i64 0,.int .i64 0,.string ⟨#[]⟩]);have R1:=Hh ((R0.out.then m1).next nb);have V1:=Hh ((R0.out.then m1).fresh (Nat.le_refl w1.heap.size));clear m1 nb)
 |(go_at_call 188;refine(hrd _ R1.out.mv.at_).mono ?_;rintro e w2 ⟨rfl,m2⟩
   have hz2:w1.heap.size+1≤w2.heap.size:=by have:=m2.keeps.size;(try simp at this);omega
   have G2:=Hh (m2.keeps.whole G1.out (by have:=R1.out.qin;have:=R1.out.cin;omega));have R2:=Hh (R1.out.then m2);have hcell:=R2.out.mv.at_.cell;clear m2)
 |((with_reducible refine Zg 35 34 ?_);refine Zj 9 _ _ 174 w1.heap.size 3 [.int .i64 3,.int .i64 0,.int .i64 0] (.string ⟨#[]⟩) (.string nm) [] G2.out rfl Zhl rfl rfl rfl rfl rfl rfl ?_
   intro w3 p3;have G3:=Hh (show Zf w3 w1.heap.size 174 [.int .i64 3,.int .i64 0,.int .i64 0,.string nm].toArray from p3.whole);have R3:=Hh (R2.out.put p3 hz1 V1.out);have hcell:=R3.out.mv.at_.cell;have hz3:=Nat.le_trans hz2 p3.keeps.size;clear p3)
 |((with_reducible refine Zd 48 ?_);refine Zb 174 _ 174 w1.heap.size _ G3.out Zgm Zbd rfl rfl rfl ?_)
 |(at_builtin;refine Wi (.tmp 47) (.tmp 49) 47 174 4 40 _ Zbu Zdk rfl (by decide) (by decide) w.heap.size (.slice A acc.length cp) acc.length (Zdw acc) [.int .i64 3,.int .i64 0,.int .i64 0,.string nm] (Un R3.out.row (Zi w3 (.cells [.int .i64 3,.int .i64 0,.int .i64 0,.string nm].toArray 174))) w3.heap.size (Zf.made _ _ _) rfl (by simp[Value.oneCell']) (by have:=HA.out.1;have:=HL.out;omega) (by simp;omega) rfl rfl rfl rfl ?_
   intro v9 w9 o9 g9 at9
   have R9:=Hh ((R3.out.next (Zi w3 (.cells [.int .i64 3,.int .i64 0,.int .i64 0,.string nm].toArray 174))).push o9 g9);clear o9 g9 at9))
    go_roundw
    case rel=>
     refine⟨m,acc++[⟨3,0,0,nm⟩],Wo L s1,?_,?_,?_,?_⟩
     ·rw[List.length_append,Zbg];exact R9.out
     ·have:=HA.out.2.1;have:=HA.out.2.2.2 (by decide);have h4:=HS.out.2.2.2;rw[HF.out]at h4;dsimp only at h4;omega
     ·have:=HA.out.1;have:=HA.out.2.2.2 (by decide);have h4:=HS.out.2.2.2;rw[HF.out]at h4;dsimp only at h4;rw[List.length_append];simp only[List.length_cons,List.length_nil];omega
     ·rw[HE.out,HS.out.1 (by decide),HF.out];simp
    case measure=>
     have h1:=R9.out.mv.at_.rem;have h2:=HA.out.2.2.1;have:=HA.out.2.2.2 (by decide);have h4:=HS.out.2.2.2;rw[HF.out]at h4;dsimp only at h4;rw[h1,h2];omega
  · rw[show((4:Nat):Int)=4 from rfl]at hf
    by_cases hme:isS L sMe s1=true
    ·have HF:=Hh (show Wt 5 L 4 s1=((⟨4,0,0,⟨#[]⟩⟩:Fl),Xw L sMe s1)from meit_me L s1 hme 5)
     have htk:∀ w,PAt w q c r K L s1→Calls Tryz.prog 99 #[Vx c s1,.string ⟨#[109,101]⟩] w (Xm w q c r K L (Xw L sMe s1) (.bool true)):=fun w h=>by rw[←hme];exact Zai w q c r K L s1 sMe h
     clear hme;go_wp2_with(first
 |(go_at_call 75;refine hf.mono ?_;rintro e w1 ⟨rfl,m1⟩
   have nb:=Zi w1 (.cells #[.int .i64 4,.int .i64 0,.int .i64 0,.string ⟨#[]⟩] 174);have hcell:=(m1.at_.below nb).cell;have hz1:w.heap.size≤w1.heap.size:=by have:=m1.keeps.size;omega
   have G1:=Hh (Zf.made w1 174 #[.int .i64 4,.int .i64 0,.int .i64 0,.string ⟨#[]⟩]);have R1:=Hh ((R0.out.then m1).next nb);have V1:=Hh ((R0.out.then m1).fresh (Nat.le_refl w1.heap.size));clear m1 nb)
 |(go_at_call 99;refine(htk _ R1.out.mv.at_).mono ?_;rintro e w2 ⟨rfl,m2⟩
   have hz2:w1.heap.size+1≤w2.heap.size:=by have:=m2.keeps.size;(try simp at this);omega
   have G2:=Hh (m2.keeps.whole G1.out (by have:=R1.out.qin;have:=R1.out.cin;omega));have R2:=Hh (R1.out.then m2);have hcell:=R2.out.mv.at_.cell;clear m2)
 |((with_reducible refine Zd 48 ?_);refine Zb 174 _ 174 w1.heap.size _ G2.out Zgm Zbd rfl rfl rfl ?_)
 |(at_builtin;refine Wi (.tmp 47) (.tmp 49) 47 174 4 40 _ Zbu Zdk rfl (by decide) (by decide) w.heap.size (.slice A acc.length cp) acc.length (Zdw acc) [.int .i64 4,.int .i64 0,.int .i64 0,.string ⟨#[]⟩] (Un R2.out.row (Zi w2 (.cells [.int .i64 4,.int .i64 0,.int .i64 0,.string ⟨#[]⟩].toArray 174))) w2.heap.size (Zf.made _ _ _) rfl (by simp[Value.oneCell']) (by have:=HA.out.1;have:=HL.out;omega) (by simp;omega) rfl rfl rfl rfl ?_
   intro v9 w9 o9 g9 at9
   have R9:=Hh ((R2.out.next (Zi w2 (.cells [.int .i64 4,.int .i64 0,.int .i64 0,.string ⟨#[]⟩].toArray 174))).push o9 g9);clear o9 g9 at9))
     go_roundw
     case rel=>
      refine⟨m,acc++[⟨4,0,0,⟨#[]⟩⟩],Xw L sMe s1,?_,?_,?_,?_⟩
      ·rw[List.length_append,Zbg];exact R9.out
      ·have:=HA.out.2.1;have:=HA.out.2.2.2 (by decide);have h4:=HS.out.2.2.2;rw[HF.out]at h4;dsimp only at h4;omega
      ·have:=HA.out.1;have:=HA.out.2.2.2 (by decide);have h4:=HS.out.2.2.2;rw[HF.out]at h4;dsimp only at h4;rw[List.length_append];simp only[List.length_cons,List.length_nil];omega
      ·rw[HE.out,HS.out.1 (by decide),HF.out];simp
     case measure=>
      have h1:=R9.out.mv.at_.rem;have h2:=HA.out.2.2.1;have:=HA.out.2.2.2 (by decide);have h4:=HS.out.2.2.2;rw[HF.out]at h4;dsimp only at h4;rw[h1,h2];omega
    ·have hme':isS L sMe s1=false:=by simpa using hme
     have HF:=Hh (show Wt 5 L 4 s1=((⟨5,0,0,⟨#[]⟩⟩:Fl),Zx L sIt s1)from meit_it L s1 hme');have htk:∀ w,PAt w q c r K L s1→Calls Tryz.prog 99 #[Vx c s1,.string ⟨#[109,101]⟩] w (Xm w q c r K L s1 (.bool false)):=fun w h=>by have h1:=Zai w q c r K L s1 sMe h;rw[hme',Vn hme']at h1;exact h1
     clear hme hme';go_wp2_with(first
 |(go_at_call 75;refine hf.mono ?_;rintro e w1 ⟨rfl,m1⟩
   have nb:=Zi w1 (.cells #[.int .i64 4,.int .i64 0,.int .i64 0,.string ⟨#[]⟩] 174);have hcell:=(m1.at_.below nb).cell;have hz1:w.heap.size≤w1.heap.size:=by have:=m1.keeps.size;omega
   have G1:=Hh (Zf.made w1 174 #[.int .i64 4,.int .i64 0,.int .i64 0,.string ⟨#[]⟩]);have R1:=Hh ((R0.out.then m1).next nb);have V1:=Hh ((R0.out.then m1).fresh (Nat.le_refl w1.heap.size));clear m1 nb)
 |(go_at_call 99;refine(htk _ R1.out.mv.at_).mono ?_;rintro e w2 ⟨rfl,m2⟩
   have hz2:w1.heap.size+1≤w2.heap.size:=by have:=m2.keeps.size;(try simp at this);omega
   have G2:=Hh (m2.keeps.whole G1.out (by have:=R1.out.qin;have:=R1.out.cin;omega));have R2:=Hh (R1.out.then m2);have hcell:=R2.out.mv.at_.cell;clear m2)
 |(go_at_call 170;refine(xwant _ q c r K L _ sIt R2.out.mv.at_).mono ?_;rintro e w3 ⟨rfl,m3⟩
   have hz3:=Nat.le_trans hz2 m3.keeps.size;have G3:=Hh (m3.keeps.whole G2.out (by have:=R2.out.qin;have:=R2.out.cin;omega));have R3:=Hh (R2.out.then m3);have hcell:=R3.out.mv.at_.cell;clear m3)
 |((with_reducible refine Uj ?_);refine Zj 3 (.tmp 46) (.const (.int .i64 5)) 174 w1.heap.size 0 [] (.int .i64 4) (.int .i64 5) [.int .i64 0,.int .i64 0,.string ⟨#[]⟩] G3.out rfl Yb rfl rfl rfl rfl rfl rfl ?_
   intro w4 p4;have G4:=Hh (show Zf w4 w1.heap.size 174 [.int .i64 5,.int .i64 0,.int .i64 0,.string ⟨#[]⟩].toArray from p4.whole);have R4:=Hh (R3.out.put p4 hz1 V1.out);have hz4:w1.heap.size+1≤w4.heap.size:=by have:=p4.keeps.size;omega
   clear p4)
 |((with_reducible refine Zd 48 ?_);refine Zb 174 _ 174 w1.heap.size _ G4.out Zgm Zbd rfl rfl rfl ?_)
 |(at_builtin;refine Wi (.tmp 47) (.tmp 49) 47 174 4 40 _ Zbu Zdk rfl (by decide) (by decide) w.heap.size (.slice A acc.length cp) acc.length (Zdw acc) [.int .i64 5,.int .i64 0,.int .i64 0,.string ⟨#[]⟩] (Un R4.out.row (Zi w4 (.cells [.int .i64 5,.int .i64 0,.int .i64 0,.string ⟨#[]⟩].toArray 174))) w4.heap.size (Zf.made _ _ _) rfl (by simp[Value.oneCell']) (by have:=HA.out.1;have:=HL.out;omega) (by simp;omega) rfl rfl rfl rfl ?_
   intro v9 w9 o9 g9 at9
   have R9:=Hh ((R4.out.next (Zi w4 (.cells [.int .i64 5,.int .i64 0,.int .i64 0,.string ⟨#[]⟩].toArray 174))).push o9 g9);clear o9 g9 at9))
     go_roundw
     case rel=>
      refine⟨m,acc++[⟨5,0,0,⟨#[]⟩⟩],Zx L sIt s1,?_,?_,?_,?_⟩
      ·rw[List.length_append,Zbg];exact R9.out
      ·have:=HA.out.2.1;have:=HA.out.2.2.2 (by decide);have h4:=HS.out.2.2.2;rw[HF.out]at h4;dsimp only at h4;omega
      ·have:=HA.out.1;have:=HA.out.2.2.2 (by decide);have h4:=HS.out.2.2.2;rw[HF.out]at h4;dsimp only at h4;rw[List.length_append];simp only[List.length_cons,List.length_nil];omega
      ·rw[HE.out,HS.out.1 (by decide),HF.out];simp
     case measure=>
      have h1:=R9.out.mv.at_.rem;have h2:=HA.out.2.2.1;have:=HA.out.2.2.2 (by decide);have h4:=HS.out.2.2.2;rw[HF.out]at h4;dsimp only at h4;rw[h1,h2];omega
end Go.Proofs.YtdngkgickbaboaaGreat
