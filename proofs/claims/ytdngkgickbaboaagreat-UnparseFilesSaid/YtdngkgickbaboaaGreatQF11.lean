/- Parts of the proof. No conditions but those that each names. -/
import Derived.OwnWalk
import Derived.Maps.AppendAt
import Derived.Test.YtdngkgickbaboaaGreatQF10
set_option maxRecDepth 20000
set_option maxHeartbeats 12800000
set_option linter.unusedVariables false
set_option linter.unusedSimpArgs false
namespace Go.Proofs.YtdngkgickbaboaaGreat
open Go.Value renaming int→I,slice→Λ,pointer→Ω,string→Ψ,oneCell'→Γ
open Go.IntKind renaming i64→J
open _root_.Go.Proofs.Tryz renaming prog→Φ
open Nat renaming le_refl→Θ
open Nat renaming le_trans→Ξ
open And renaming intro→ζ
open Go.Ending renaming returned→η
open Go.ChangeShapes Go.WideShapes Go.ChangeAt Go.RowKit
def remW(q c:Nat)(w:World):Nat:=
 match w.cell? ⟨q,0,none⟩with
 |some (.pointer (some _))=>match w.cell? ⟨c,0,none⟩with | some v=>lenV v | none=>0
 |_=>0
theorem PAt.rem{w:World}{q c r K:Nat}{L:List TokV}{st:St}(h:PAt w q c r K L st):remW q c w=Zw L st:=by
 have h0:=h.cell;cases st with
 |ok a d=>
  have h1:w.cell? ⟨q,0,none⟩=some (Ω (some ⟨c,0,none⟩)):=h0;unfold remW;rw[h1];dsimp only;rw[(h.cur a d rfl).2.2.look.c0];rfl
 |bad F=>
  have h1:w.cell? ⟨q,0,none⟩=some (Ω none):=h0;unfold remW;rw[h1];rfl
def Fl.cells(f:Fl):List Value:=[I J f.kind,I J f.op,I J f.n,Ψ f.name]
def Zgi(l:List Fl):List Value:=l.flatMap Fl.cells
theorem Zcx(l:List Fl)(f:Fl):Zgi (l++[f])=Zgi l++f.cells:=by unfold Zgi;simp
theorem Zgm:Tryz.prog.underlying 47=some (.slice 174):=by kernel_rfl
theorem Zgo:(Tryz.prog.info? 174).map (fun i=>(i.zero,i.size,i.bytes))=some (some (.agg #[I J 0,I J 0,I J 0,Ψ ⟨#[]⟩]),4,40):=by kernel_rfl
theorem Zji:(Tryz.prog.underlying 174).map TypeDesc.isRow=some true:=by kernel_rfl
theorem Zct:(Tryz.prog.info? 174).map (·.size)=some 4:=by kernel_rfl
theorem Zkn:(Tryz.prog.info? 9).map (·.size)=some 1:=by kernel_rfl
structure Zki(w:World)(q c r K:Nat)(L:List TokV)(e:TypeId)(sz:Nat)(st:St)(n:Nat)(xs:List Value)(v:Value)(wr:World):Prop where
 mv:Wg w wr q c r K L st
 row:wr.ownsRow w.heap.size e sz v n xs
 qin:q<w.heap.size
 cin:c<w.heap.size
 rin:r<w.heap.size
theorem Zki.then{w x y:World}{q c r K n sz:Nat}{L:List TokV}{e:TypeId}{st st':St}{xs:List Value}{v:Value}(h:Zki w q c r K L e sz st n xs v x)(m:Wg x y q c r K L st'):Zki w q c r K L e sz st' n xs v y:=
 ⟨h.mv.then m,m.keeps.owns h.row (fun k hk c=>by have:=(h.row.lt k hk).1;have:=h.qin;have:=h.cin;omega),h.qin,h.cin,h.rin⟩
theorem Zki.next{w x y:World}{q c r K n sz:Nat}{L:List TokV}{e:TypeId}{st:St}{xs:List Value}{v:Value}(h:Zki w q c r K L e sz st n xs v x)(hb:Below x.heap.size x y):Zki w q c r K L e sz st n xs v y:=
 ⟨h.mv.next hb,Jw h.row hb,h.qin,h.cin,h.rin⟩
theorem Zki.put{w x y:World}{q c r K n sz:Nat}{L:List TokV}{e t:TypeId}{st:St}{xs vs:List Value}{v:Value}(h:Zki w q c r K L e sz st n xs v x){G:Nat}(p:Put x y G t vs)(hG:w.heap.size≤G)(hn:v.ownBlock≠some G):Zki w q c r K L e sz st n xs v y:=
 ⟨h.mv.put p hG h.qin h.cin h.rin,p.keeps.owns h.row (fun k hk c=>hn (by rw[hk,c])),h.qin,h.cin,h.rin⟩
theorem Zki.push{w x y:World}{q c r K n sz:Nat}{L:List TokV}{e:TypeId}{st:St}{xs ys:List Value}{v v':Value}(h:Zki w q c r K L e sz st n xs v x)(ho:y.ownsRow w.heap.size e sz v' (n+1) ys)(hg:x.grownBy y v.ownBlock):Zki w q c r K L e sz st (n+1) ys v' y:=by
 have hk:Zy (fun k=>v.ownBlock=some k) x y:=Zy.grown (Zy.refl _ _) hg fun k hk=>hk
 have hb:∀ k,v.ownBlock=some k→w.heap.size≤k:=fun k hk=>(h.row.lt k hk).1
 refine⟨⟨h.mv.at_.keeps hk (fun e=>?_) (fun e=>?_) (fun e=>?_),?_⟩,ho,h.qin,h.cin,h.rin⟩
 ·have:=hb _ e;have:=h.qin;omega
 ·have:=hb _ e;have:=h.cin;omega
 ·have:=hb _ e;have:=h.rin;omega
 ·have h1:Zy (fun k=>(k=q∨k=c)∨v.ownBlock=some k) w x:=h.mv.keeps.mono fun k h=>.inl h
  have h2:Zy (fun k=>(k=q∨k=c)∨v.ownBlock=some k) x y:=hk.mono fun k h=>.inr h
  exact(h1.trans h2).inner fun k hk' h=>h.elim id fun e=>by have:=hb k e;omega
theorem Zki.fresh{w x:World}{q c r K n sz:Nat}{L:List TokV}{e:TypeId}{st:St}{xs:List Value}{v:Value}(h:Zki w q c r K L e sz st n xs v x){G:Nat}(hG:x.heap.size≤G):v.ownBlock≠some G:=fun c=>by
 have:=(h.row.lt _ c).2;omega
theorem Zhk(L:List TokV)(ws:List ByteArray)(st:St):Zh L ws st≤ws.length:=by
 cases st with
 |ok a d=>exact Zds _ ws
 |bad F=>exact Nat.zero_le _
theorem meit_me(L:List TokV)(s:St)(h:isS L sMe s=true)(nk:Int):Vj nk L 4 s=(⟨4,0,0,⟨#[]⟩⟩,Wf L sMe s):=by
 obtain⟨h1,h2⟩:=Zoc L Vk s 0 (by decide) (fun j hj=>by omega) h;have h3:Zp L Vk s=Wf L sMe s:=by unfold Zp;rw[if_neg (by rw[h1];decide),h2];rfl
 show((⟨if Zh L Vk s=0 then nk else 3+(Zh L Vk s:Int),0,0,⟨#[]⟩⟩:Fl),Zp L Vk s)=_;rw[h1,h3];rfl
theorem meit_it(L:List TokV)(s:St)(h:isS L sMe s=false):Vj 5 L 4 s=(⟨5,0,0,⟨#[]⟩⟩,Yb L sIt s):=by
 show((⟨if Zh L Vk s=0 then 5 else 3+(Zh L Vk s:Int),0,0,⟨#[]⟩⟩:Fl),Zp L Vk s)=_;unfold Yb Zp;by_cases hi:isS L sIt s=true
 ·obtain⟨h1,h2⟩:=Zoc L Vk s 1 (by decide) (fun j hj=>(by have e:j=0:=(by omega);rw[e];exact h)) hi
  rw[if_pos hi,h1,h2];rfl
 ·have h1:=find_miss L Vk s (fun j hj=>by
   have hj':j<2:=hj;have:j=0∨j=1:=by omega
   rcases this with rfl | rfl
   ·exact h
   ·exact(by simpa using hi:isS L sIt s=false))
  rw[if_neg hi,h1];rfl
theorem Js{P:Program}{ops:Array Oper}{rest:List Oper}{T:TypeId}{t:TypeId}{ps:String}{af:Array Edge}{gd:Option (Nat×Bool)}{a:Act}{w:World}{Q:Exit→Act→World→Prop}{x:Nat}{v:Value}
 (h:wpList P ops Q (⟨none,.store T (.tmp x) (.const v),t,ps,af,gd⟩::rest) a w):wpList P ops Q (⟨none,.store T (.tmp x) (.const v),t,ps,af,gd⟩::rest) a w:=h
def Zli(w:World)(q c r K:Nat)(L:List TokV)(x:List Fl×St)(e:Ending)(w':World):Prop:=
 ∃ v,e=η v∧Zki w q c r K L 174 4 x.2 x.1.length (Zgi x.1) v w'
theorem Zod(nk:Int)(L:List TokV)(m:Nat)(st:St)(h:¬ Zh L Yg st=0):Yf nk L (m+1) st =
  ((Vj nk L (Zh L Yg st) (Yd L Yg st)).1::(Yf nk L m (Vj nk L (Zh L Yg st) (Yd L Yg st)).2).1,(Yf nk L m (Vj nk L (Zh L Yg st) (Yd L Yg st)).2).2):=by
 rw[Yf,if_neg h]
theorem Zjs(nk:Int)(L:List TokV)(m:Nat)(st:St)(h:Zh L Yg st=0):Yf nk L (m+1) st=([],st):=by
 rw[Yf,if_pos h]
theorem xfilters(w:World)(q c r K:Nat)(L:List TokV)(st:St)(n:Nat)(h:PAt w q c r K L st)(hn:Zw L st+1≤n)(hLn:Zw L st≤68719476736) :
  Calls Φ 169 #[Ω (some ⟨q,0,none⟩)] w (Zli w q c r K L (Yf 5 L n st)):=by
 have H0:=Hh (show Zki w q c r K L 174 4 st 0 [] (Λ none 0 0) w from⟨Wg.start h,World.ownsRow_nil _ _ _ _,h.whole.inside,h.cin,h.rin⟩);have HN:=Hh hn;have HL:=Hh hLn;clear hn h hLn;go_enter Tryz.func169,Tryz.ntmps169;go_wp2
 go_loopw [3] (fun v wr=>∃(m:Nat)(acc:List Fl)(s:St),Zki w q c r K L 174 4 s acc.length (Zgi acc) v wr∧Zw L s+1≤m∧acc.length+Zw L s≤Zw L st∧Yf 5 L n st=(acc++(Yf 5 L m s).1,(Yf 5 L m s).2)) (fun _ wr=>remW q c wr)
 case atStart=>exact⟨n,[],st,H0.out,HN.out,by simp,by simp⟩
 case round=>
  obtain⟨m,acc,s,hR,hm,hacc,heq⟩:=hrel;obtain⟨m,rfl⟩:∃ m',m=m'+1:=⟨m - 1,by omega⟩
  obtain⟨A,cp,rfl,_,_,_⟩:=Xq hR.row;have hrem:=hR.mv.at_.rem;have hf:=xfindB _ q c r K _ L s Yg 4 4 _ rfl rfl hR.mv.at_ rfl (by decide);have hle:=Zhk L Yg s;have hz:=hR.mv.keeps.size;have hfr:=Vq (L:=L) (ws:=Yg) (st:=s);have hfn:=Zah L (ws:=Yg) (st:=s);have hst:=Zod 5 L m s;have hsp:=Zjs 5 L m s;have hrf:=Zmo L 5 (Zh L Yg s) (Yd L Yg s);generalize hk:Zh L Yg s=k at *;generalize hs1:Yd L Yg s=s1 at *;have R0:=Hh hR;have HA:=Hh (ζ hacc (ζ hm (ζ hrem hfr)));have HE:=Hh heq;have HS:=Hh (ζ hst (ζ hsp (ζ hfn hrf)));clear hR hm hacc heq hrem hfr hst hsp hfn hrf hk hs1;have hle4:k≤4:=hle;clear hle;have h5:k=0∨k=1∨k=2∨k=3∨k=4:=by omega
  clear hle4;rcases h5 with rfl | rfl | rfl | rfl | rfl
  · rw[show((0:Nat):Int)=0 from rfl]at hf
    go_wp2_with(first
 |(go_at_call 75;refine hf.mono ?_;rintro e w1 ⟨rfl,m1⟩
   have nb:=Zj w1 (.cells #[I J 0,I J 0,I J 0,Ψ ⟨#[]⟩] 174);have hcell:=(m1.at_.below nb).cell;have hz1:w.heap.size≤w1.heap.size:=by have:=m1.keeps.size;omega
   have G1:=Hh (Ze.made w1 174 #[I J 0,I J 0,I J 0,Ψ ⟨#[]⟩]);have R1:=Hh ((R0.out.then m1).next nb)
   have V1:=Hh ((R0.out.then m1).fresh (Θ w1.heap.size));clear m1 nb))
    go_ret;have hs:=HS.out.2.2.1 (by first | rfl | trivial);refine⟨_,rfl,?_⟩;rw[HE.out,HS.out.2.1 (by first | rfl | trivial)];have R:=R1.out;rw[hs]at R;simpa using R
  · rw[show((1:Nat):Int)=1 from rfl]at hf
    have HF:=Hh (show Vj 5 L 1 s1=((⟨1,Zh L wOp s1,Zbe L (Zp L wOp s1),⟨#[]⟩⟩:Fl),Zae L (Zp L wOp s1))from rfl);generalize hop:Zh L wOp s1=op at *;generalize hs2:Zp L wOp s1=s2 at *;generalize hsg:Zbe L s2=sg at *;have hopc:∀ w,PAt w q c r K L s1→Calls Φ 187 #[Ω (some ⟨q,0,none⟩)] w (Xw w q c r K L s2 (I J (op:Int))):=fun w h=>by rw[←hop,←hs2];exact xop w q c r K L s1 h
    have hrd:∀ w,PAt w q c r K L s2→Calls Φ 133 #[Ω (some ⟨q,0,none⟩),.func (.func 134) #[Ji c s2] #[]] w (Xw w q c r K L (Zae L s2) (I J sg)):=fun w h=>by rw[←hsg];exact Zkj w q c r K L s2 h
    clear hop hs2 hsg;go_wp2_with(first
 |(go_at_call 75;refine hf.mono ?_;rintro e w1 ⟨rfl,m1⟩
   have nb:=Zj w1 (.cells #[I J 1,I J 0,I J 0,Ψ ⟨#[]⟩] 174);have hcell:=(m1.at_.below nb).cell;have hz1:w.heap.size≤w1.heap.size:=by have:=m1.keeps.size;omega
   have G1:=Hh (Ze.made w1 174 #[I J 1,I J 0,I J 0,Ψ ⟨#[]⟩]);have R1:=Hh ((R0.out.then m1).next nb);have V1:=Hh ((R0.out.then m1).fresh (Θ w1.heap.size));clear m1 nb)
 |(go_at_call 187;refine(hopc _ R1.out.mv.at_).mono ?_;rintro e w2 ⟨rfl,m2⟩
   have hz2:w1.heap.size+1≤w2.heap.size:=by have:=m2.keeps.size;(try simp at this);omega
   have G2:=Hh (m2.keeps.whole G1.out (by have:=R1.out.qin;have:=R1.out.cin;omega));have R2:=Hh (R1.out.then m2);have hcell:=R2.out.mv.at_.cell;clear m2)
 |((with_reducible refine Zi 17 16 ?_);refine Zm 3 _ _ 174 w1.heap.size 1 [I J 1] (I J 0) (I J (op:Int)) [I J 0,Ψ ⟨#[]⟩] G2.out rfl Yk rfl rfl rfl rfl rfl rfl ?_
   intro w3 p3;have G3:=Hh (show Ze w3 w1.heap.size 174 [I J 1,I J (op:Int),I J 0,Ψ ⟨#[]⟩].toArray from p3.whole);have R3:=Hh (R2.out.put p3 hz1 V1.out);have hcell:=R3.out.mv.at_.cell;have hz3:=Ξ hz2 p3.keeps.size;clear p3)
 |(go_at_call 133;refine(hrd _ R3.out.mv.at_).mono ?_;rintro e w4 ⟨rfl,m4⟩
   have hz4:=Ξ hz3 m4.keeps.size;have G4:=Hh (m4.keeps.whole G3.out (by have:=R3.out.qin;have:=R3.out.cin;omega));have R4:=Hh (R3.out.then m4);have hcell:=R4.out.mv.at_.cell;clear m4)
 |((with_reducible refine Zi 25 24 ?_);refine Zm 3 _ _ 174 w1.heap.size 2 [I J 1,I J (op:Int)] (I J 0) (I J sg) [Ψ ⟨#[]⟩] G4.out rfl Yk rfl rfl rfl rfl rfl rfl ?_
   intro w5 p5;have G5:=Hh (show Ze w5 w1.heap.size 174 [I J 1,I J (op:Int),I J sg,Ψ ⟨#[]⟩].toArray from p5.whole);have R5:=Hh (R4.out.put p5 hz1 V1.out);have hcell:=R5.out.mv.at_.cell;have hz5:=Ξ hz4 p5.keeps.size;clear p5)
 |((with_reducible refine Zd 48 ?_);refine Zb 174 _ 174 w1.heap.size _ G5.out Zji Zct rfl rfl rfl ?_)
 |(at_builtin;refine Wv (.tmp 47) (.tmp 49) 47 174 4 40 _ Zgm Zgo rfl (by decide) (by decide) w.heap.size (Λ A acc.length cp) acc.length (Zgi acc) [I J 1,I J (op:Int),I J sg,Ψ ⟨#[]⟩] (Jw R5.out.row (Zj w5 (.cells [I J 1,I J (op:Int),I J sg,Ψ ⟨#[]⟩].toArray 174))) w5.heap.size (Ze.made _ _ _) rfl (by simp[Γ]) (by have:=HA.out.1;have:=HL.out;omega) (by simp;omega) rfl rfl rfl rfl ?_
   intro v9 w9 o9 g9 at9
   have R9:=Hh ((R5.out.next (Zj w5 (.cells [I J 1,I J (op:Int),I J sg,Ψ ⟨#[]⟩].toArray 174))).push o9 g9);clear o9 g9 at9))
    go_roundw
    case rel=>
     refine⟨m,acc++[⟨1,op,sg,⟨#[]⟩⟩],Zae L s2,?_,?_,?_,?_⟩
     ·rw[List.length_append,Zcx];exact R9.out
     ·have:=HA.out.2.1;have:=HA.out.2.2.2 (by decide);have h4:=HS.out.2.2.2;rw[HF.out]at h4;dsimp only at h4;omega
     ·have:=HA.out.1;have:=HA.out.2.2.2 (by decide);have h4:=HS.out.2.2.2;rw[HF.out]at h4;dsimp only at h4;rw[List.length_append];simp only[List.length_cons,List.length_nil];omega
     ·rw[HE.out,HS.out.1 (by decide),HF.out];simp
    case measure=>
     have h1:=R9.out.mv.at_.rem;have h2:=HA.out.2.2.1;have:=HA.out.2.2.2 (by decide);have h4:=HS.out.2.2.2;rw[HF.out]at h4;dsimp only at h4;rw[h1,h2];omega
  · rw[show((2:Nat):Int)=2 from rfl]at hf
    have HF:=Hh (show Vj 5 L 2 s1=((⟨2,Zh L wOp s1,Zbe L (Zp L wOp s1),⟨#[]⟩⟩:Fl),Zae L (Zp L wOp s1))from rfl);generalize hop:Zh L wOp s1=op at *;generalize hs2:Zp L wOp s1=s2 at *;generalize hsg:Zbe L s2=sg at *;have hopc:∀ w,PAt w q c r K L s1→Calls Φ 187 #[Ω (some ⟨q,0,none⟩)] w (Xw w q c r K L s2 (I J (op:Int))):=fun w h=>by rw[←hop,←hs2];exact xop w q c r K L s1 h
    have hrd:∀ w,PAt w q c r K L s2→Calls Φ 133 #[Ω (some ⟨q,0,none⟩),.func (.func 134) #[Ji c s2] #[]] w (Xw w q c r K L (Zae L s2) (I J sg)):=fun w h=>by rw[←hsg];exact Zkj w q c r K L s2 h
    clear hop hs2 hsg;go_wp2_with(first
 |(go_at_call 75;refine hf.mono ?_;rintro e w1 ⟨rfl,m1⟩
   have nb:=Zj w1 (.cells #[I J 2,I J 0,I J 0,Ψ ⟨#[]⟩] 174);have hcell:=(m1.at_.below nb).cell;have hz1:w.heap.size≤w1.heap.size:=by have:=m1.keeps.size;omega
   have G1:=Hh (Ze.made w1 174 #[I J 2,I J 0,I J 0,Ψ ⟨#[]⟩]);have R1:=Hh ((R0.out.then m1).next nb);have V1:=Hh ((R0.out.then m1).fresh (Θ w1.heap.size));clear m1 nb)
 |(go_at_call 187;refine(hopc _ R1.out.mv.at_).mono ?_;rintro e w2 ⟨rfl,m2⟩
   have hz2:w1.heap.size+1≤w2.heap.size:=by have:=m2.keeps.size;(try simp at this);omega
   have G2:=Hh (m2.keeps.whole G1.out (by have:=R1.out.qin;have:=R1.out.cin;omega));have R2:=Hh (R1.out.then m2);have hcell:=R2.out.mv.at_.cell;clear m2)
 |((with_reducible refine Zi 17 16 ?_);refine Zm 3 _ _ 174 w1.heap.size 1 [I J 2] (I J 0) (I J (op:Int)) [I J 0,Ψ ⟨#[]⟩] G2.out rfl Yk rfl rfl rfl rfl rfl rfl ?_
   intro w3 p3;have G3:=Hh (show Ze w3 w1.heap.size 174 [I J 2,I J (op:Int),I J 0,Ψ ⟨#[]⟩].toArray from p3.whole);have R3:=Hh (R2.out.put p3 hz1 V1.out);have hcell:=R3.out.mv.at_.cell;have hz3:=Ξ hz2 p3.keeps.size;clear p3)
 |(go_at_call 133;refine(hrd _ R3.out.mv.at_).mono ?_;rintro e w4 ⟨rfl,m4⟩
   have hz4:=Ξ hz3 m4.keeps.size;have G4:=Hh (m4.keeps.whole G3.out (by have:=R3.out.qin;have:=R3.out.cin;omega));have R4:=Hh (R3.out.then m4);have hcell:=R4.out.mv.at_.cell;clear m4)
 |((with_reducible refine Zi 25 24 ?_);refine Zm 3 _ _ 174 w1.heap.size 2 [I J 2,I J (op:Int)] (I J 0) (I J sg) [Ψ ⟨#[]⟩] G4.out rfl Yk rfl rfl rfl rfl rfl rfl ?_
   intro w5 p5;have G5:=Hh (show Ze w5 w1.heap.size 174 [I J 2,I J (op:Int),I J sg,Ψ ⟨#[]⟩].toArray from p5.whole);have R5:=Hh (R4.out.put p5 hz1 V1.out);have hcell:=R5.out.mv.at_.cell;have hz5:=Ξ hz4 p5.keeps.size;clear p5)
 |((with_reducible refine Zd 48 ?_);refine Zb 174 _ 174 w1.heap.size _ G5.out Zji Zct rfl rfl rfl ?_)
 |(at_builtin;refine Wv (.tmp 47) (.tmp 49) 47 174 4 40 _ Zgm Zgo rfl (by decide) (by decide) w.heap.size (Λ A acc.length cp) acc.length (Zgi acc) [I J 2,I J (op:Int),I J sg,Ψ ⟨#[]⟩] (Jw R5.out.row (Zj w5 (.cells [I J 2,I J (op:Int),I J sg,Ψ ⟨#[]⟩].toArray 174))) w5.heap.size (Ze.made _ _ _) rfl (by simp[Γ]) (by have:=HA.out.1;have:=HL.out;omega) (by simp;omega) rfl rfl rfl rfl ?_
   intro v9 w9 o9 g9 at9
   have R9:=Hh ((R5.out.next (Zj w5 (.cells [I J 2,I J (op:Int),I J sg,Ψ ⟨#[]⟩].toArray 174))).push o9 g9);clear o9 g9 at9))
    go_roundw
    case rel=>
     refine⟨m,acc++[⟨2,op,sg,⟨#[]⟩⟩],Zae L s2,?_,?_,?_,?_⟩
     ·rw[List.length_append,Zcx];exact R9.out
     ·have:=HA.out.2.1;have:=HA.out.2.2.2 (by decide);have h4:=HS.out.2.2.2;rw[HF.out]at h4;dsimp only at h4;omega
     ·have:=HA.out.1;have:=HA.out.2.2.2 (by decide);have h4:=HS.out.2.2.2;rw[HF.out]at h4;dsimp only at h4;rw[List.length_append];simp only[List.length_cons,List.length_nil];omega
     ·rw[HE.out,HS.out.1 (by decide),HF.out];simp
    case measure=>
     have h1:=R9.out.mv.at_.rem;have h2:=HA.out.2.2.1;have:=HA.out.2.2.2 (by decide);have h4:=HS.out.2.2.2;rw[HF.out]at h4;dsimp only at h4;rw[h1,h2];omega
  · rw[show((3:Nat):Int)=3 from rfl]at hf
    have HF:=Hh (show Vj 5 L 3 s1=((⟨3,0,0,Zdc L s1⟩:Fl),Vf L s1)from rfl);generalize hnm:Zdc L s1=nm at *;have hrd:∀ w,PAt w q c r K L s1→Calls Φ 188 #[Ω (some ⟨q,0,none⟩),.func (.func 189) #[Ji c s1] #[]] w (Xw w q c r K L (Vf L s1) (Ψ nm)):=fun w h=>by rw[←hnm];exact xreadName w q c r K L s1 h
    clear hnm;go_wp2_with(first
 |(go_at_call 75;refine hf.mono ?_;rintro e w1 ⟨rfl,m1⟩
   have nb:=Zj w1 (.cells #[I J 3,I J 0,I J 0,Ψ ⟨#[]⟩] 174);have hcell:=(m1.at_.below nb).cell;have hz1:w.heap.size≤w1.heap.size:=by have:=m1.keeps.size;omega
   have G1:=Hh (Ze.made w1 174 #[I J 3,I J 0,I J 0,Ψ ⟨#[]⟩]);have R1:=Hh ((R0.out.then m1).next nb);have V1:=Hh ((R0.out.then m1).fresh (Θ w1.heap.size));clear m1 nb)
 |(go_at_call 188;refine(hrd _ R1.out.mv.at_).mono ?_;rintro e w2 ⟨rfl,m2⟩
   have hz2:w1.heap.size+1≤w2.heap.size:=by have:=m2.keeps.size;(try simp at this);omega
   have G2:=Hh (m2.keeps.whole G1.out (by have:=R1.out.qin;have:=R1.out.cin;omega));have R2:=Hh (R1.out.then m2);have hcell:=R2.out.mv.at_.cell;clear m2)
 |((with_reducible refine Zi 35 34 ?_);refine Zm 9 _ _ 174 w1.heap.size 3 [I J 3,I J 0,I J 0] (Ψ ⟨#[]⟩) (Ψ nm) [] G2.out rfl Zkn rfl rfl rfl rfl rfl rfl ?_
   intro w3 p3;have G3:=Hh (show Ze w3 w1.heap.size 174 [I J 3,I J 0,I J 0,Ψ nm].toArray from p3.whole);have R3:=Hh (R2.out.put p3 hz1 V1.out);have hcell:=R3.out.mv.at_.cell;have hz3:=Ξ hz2 p3.keeps.size;clear p3)
 |((with_reducible refine Zd 48 ?_);refine Zb 174 _ 174 w1.heap.size _ G3.out Zji Zct rfl rfl rfl ?_)
 |(at_builtin;refine Wv (.tmp 47) (.tmp 49) 47 174 4 40 _ Zgm Zgo rfl (by decide) (by decide) w.heap.size (Λ A acc.length cp) acc.length (Zgi acc) [I J 3,I J 0,I J 0,Ψ nm] (Jw R3.out.row (Zj w3 (.cells [I J 3,I J 0,I J 0,Ψ nm].toArray 174))) w3.heap.size (Ze.made _ _ _) rfl (by simp[Γ]) (by have:=HA.out.1;have:=HL.out;omega) (by simp;omega) rfl rfl rfl rfl ?_
   intro v9 w9 o9 g9 at9
   have R9:=Hh ((R3.out.next (Zj w3 (.cells [I J 3,I J 0,I J 0,Ψ nm].toArray 174))).push o9 g9);clear o9 g9 at9))
    go_roundw
    case rel=>
     refine⟨m,acc++[⟨3,0,0,nm⟩],Vf L s1,?_,?_,?_,?_⟩
     ·rw[List.length_append,Zcx];exact R9.out
     ·have:=HA.out.2.1;have:=HA.out.2.2.2 (by decide);have h4:=HS.out.2.2.2;rw[HF.out]at h4;dsimp only at h4;omega
     ·have:=HA.out.1;have:=HA.out.2.2.2 (by decide);have h4:=HS.out.2.2.2;rw[HF.out]at h4;dsimp only at h4;rw[List.length_append];simp only[List.length_cons,List.length_nil];omega
     ·rw[HE.out,HS.out.1 (by decide),HF.out];simp
    case measure=>
     have h1:=R9.out.mv.at_.rem;have h2:=HA.out.2.2.1;have:=HA.out.2.2.2 (by decide);have h4:=HS.out.2.2.2;rw[HF.out]at h4;dsimp only at h4;rw[h1,h2];omega
  · rw[show((4:Nat):Int)=4 from rfl]at hf
    by_cases hme:isS L sMe s1=true
    ·have HF:=Hh (show Vj 5 L 4 s1=((⟨4,0,0,⟨#[]⟩⟩:Fl),Wf L sMe s1)from meit_me L s1 hme 5)
     have htk:∀ w,PAt w q c r K L s1→Calls Φ 99 #[Ji c s1,Ψ ⟨#[109,101]⟩] w (Xw w q c r K L (Wf L sMe s1) (.bool true)):=fun w h=>by rw[←hme];exact Zbn w q c r K L s1 sMe h
     clear hme;go_wp2_with(first
 |(go_at_call 75;refine hf.mono ?_;rintro e w1 ⟨rfl,m1⟩
   have nb:=Zj w1 (.cells #[I J 4,I J 0,I J 0,Ψ ⟨#[]⟩] 174);have hcell:=(m1.at_.below nb).cell;have hz1:w.heap.size≤w1.heap.size:=by have:=m1.keeps.size;omega
   have G1:=Hh (Ze.made w1 174 #[I J 4,I J 0,I J 0,Ψ ⟨#[]⟩]);have R1:=Hh ((R0.out.then m1).next nb);have V1:=Hh ((R0.out.then m1).fresh (Θ w1.heap.size));clear m1 nb)
 |(go_at_call 99;refine(htk _ R1.out.mv.at_).mono ?_;rintro e w2 ⟨rfl,m2⟩
   have hz2:w1.heap.size+1≤w2.heap.size:=by have:=m2.keeps.size;(try simp at this);omega
   have G2:=Hh (m2.keeps.whole G1.out (by have:=R1.out.qin;have:=R1.out.cin;omega));have R2:=Hh (R1.out.then m2);have hcell:=R2.out.mv.at_.cell;clear m2)
 |((with_reducible refine Zd 48 ?_);refine Zb 174 _ 174 w1.heap.size _ G2.out Zji Zct rfl rfl rfl ?_)
 |(at_builtin;refine Wv (.tmp 47) (.tmp 49) 47 174 4 40 _ Zgm Zgo rfl (by decide) (by decide) w.heap.size (Λ A acc.length cp) acc.length (Zgi acc) [I J 4,I J 0,I J 0,Ψ ⟨#[]⟩] (Jw R2.out.row (Zj w2 (.cells [I J 4,I J 0,I J 0,Ψ ⟨#[]⟩].toArray 174))) w2.heap.size (Ze.made _ _ _) rfl (by simp[Γ]) (by have:=HA.out.1;have:=HL.out;omega) (by simp;omega) rfl rfl rfl rfl ?_
   intro v9 w9 o9 g9 at9
   have R9:=Hh ((R2.out.next (Zj w2 (.cells [I J 4,I J 0,I J 0,Ψ ⟨#[]⟩].toArray 174))).push o9 g9);clear o9 g9 at9))
     go_roundw
     case rel=>
      refine⟨m,acc++[⟨4,0,0,⟨#[]⟩⟩],Wf L sMe s1,?_,?_,?_,?_⟩
      ·rw[List.length_append,Zcx];exact R9.out
      ·have:=HA.out.2.1;have:=HA.out.2.2.2 (by decide);have h4:=HS.out.2.2.2;rw[HF.out]at h4;dsimp only at h4;omega
      ·have:=HA.out.1;have:=HA.out.2.2.2 (by decide);have h4:=HS.out.2.2.2;rw[HF.out]at h4;dsimp only at h4;rw[List.length_append];simp only[List.length_cons,List.length_nil];omega
      ·rw[HE.out,HS.out.1 (by decide),HF.out];simp
     case measure=>
      have h1:=R9.out.mv.at_.rem;have h2:=HA.out.2.2.1;have:=HA.out.2.2.2 (by decide);have h4:=HS.out.2.2.2;rw[HF.out]at h4;dsimp only at h4;rw[h1,h2];omega
    ·have hme':isS L sMe s1=false:=by simpa using hme
     have HF:=Hh (show Vj 5 L 4 s1=((⟨5,0,0,⟨#[]⟩⟩:Fl),Yb L sIt s1)from meit_it L s1 hme');have htk:∀ w,PAt w q c r K L s1→Calls Φ 99 #[Ji c s1,Ψ ⟨#[109,101]⟩] w (Xw w q c r K L s1 (.bool false)):=fun w h=>by have h1:=Zbn w q c r K L s1 sMe h;rw[hme',Ux hme']at h1;exact h1
     clear hme hme';go_wp2_with(first
 |(go_at_call 75;refine hf.mono ?_;rintro e w1 ⟨rfl,m1⟩
   have nb:=Zj w1 (.cells #[I J 4,I J 0,I J 0,Ψ ⟨#[]⟩] 174);have hcell:=(m1.at_.below nb).cell;have hz1:w.heap.size≤w1.heap.size:=by have:=m1.keeps.size;omega
   have G1:=Hh (Ze.made w1 174 #[I J 4,I J 0,I J 0,Ψ ⟨#[]⟩]);have R1:=Hh ((R0.out.then m1).next nb);have V1:=Hh ((R0.out.then m1).fresh (Θ w1.heap.size));clear m1 nb)
 |(go_at_call 99;refine(htk _ R1.out.mv.at_).mono ?_;rintro e w2 ⟨rfl,m2⟩
   have hz2:w1.heap.size+1≤w2.heap.size:=by have:=m2.keeps.size;(try simp at this);omega
   have G2:=Hh (m2.keeps.whole G1.out (by have:=R1.out.qin;have:=R1.out.cin;omega));have R2:=Hh (R1.out.then m2);have hcell:=R2.out.mv.at_.cell;clear m2)
 |(go_at_call 170;refine(xwant _ q c r K L _ sIt R2.out.mv.at_).mono ?_;rintro e w3 ⟨rfl,m3⟩
   have hz3:=Ξ hz2 m3.keeps.size;have G3:=Hh (m3.keeps.whole G2.out (by have:=R2.out.qin;have:=R2.out.cin;omega));have R3:=Hh (R2.out.then m3);have hcell:=R3.out.mv.at_.cell;clear m3)
 |((with_reducible refine Js ?_);refine Zm 3 (.tmp 46) (.const (I J 5)) 174 w1.heap.size 0 [] (I J 4) (I J 5) [I J 0,I J 0,Ψ ⟨#[]⟩] G3.out rfl Yk rfl rfl rfl rfl rfl rfl ?_
   intro w4 p4;have G4:=Hh (show Ze w4 w1.heap.size 174 [I J 5,I J 0,I J 0,Ψ ⟨#[]⟩].toArray from p4.whole);have R4:=Hh (R3.out.put p4 hz1 V1.out);have hz4:w1.heap.size+1≤w4.heap.size:=by have:=p4.keeps.size;omega
   clear p4)
 |((with_reducible refine Zd 48 ?_);refine Zb 174 _ 174 w1.heap.size _ G4.out Zji Zct rfl rfl rfl ?_)
 |(at_builtin;refine Wv (.tmp 47) (.tmp 49) 47 174 4 40 _ Zgm Zgo rfl (by decide) (by decide) w.heap.size (Λ A acc.length cp) acc.length (Zgi acc) [I J 5,I J 0,I J 0,Ψ ⟨#[]⟩] (Jw R4.out.row (Zj w4 (.cells [I J 5,I J 0,I J 0,Ψ ⟨#[]⟩].toArray 174))) w4.heap.size (Ze.made _ _ _) rfl (by simp[Γ]) (by have:=HA.out.1;have:=HL.out;omega) (by simp;omega) rfl rfl rfl rfl ?_
   intro v9 w9 o9 g9 at9
   have R9:=Hh ((R4.out.next (Zj w4 (.cells [I J 5,I J 0,I J 0,Ψ ⟨#[]⟩].toArray 174))).push o9 g9);clear o9 g9 at9))
     go_roundw
     case rel=>
      refine⟨m,acc++[⟨5,0,0,⟨#[]⟩⟩],Yb L sIt s1,?_,?_,?_,?_⟩
      ·rw[List.length_append,Zcx];exact R9.out
      ·have:=HA.out.2.1;have:=HA.out.2.2.2 (by decide);have h4:=HS.out.2.2.2;rw[HF.out]at h4;dsimp only at h4;omega
      ·have:=HA.out.1;have:=HA.out.2.2.2 (by decide);have h4:=HS.out.2.2.2;rw[HF.out]at h4;dsimp only at h4;rw[List.length_append];simp only[List.length_cons,List.length_nil];omega
      ·rw[HE.out,HS.out.1 (by decide),HF.out];simp
     case measure=>
      have h1:=R9.out.mv.at_.rem;have h2:=HA.out.2.2.1;have:=HA.out.2.2.2 (by decide);have h4:=HS.out.2.2.2;rw[HF.out]at h4;dsimp only at h4;rw[h1,h2];omega
end Go.Proofs.YtdngkgickbaboaaGreat
