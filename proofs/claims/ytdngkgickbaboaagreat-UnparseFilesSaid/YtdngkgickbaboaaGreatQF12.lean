/- Parts of the proof. No conditions but those that each names. -/
import Derived.Test.YtdngkgickbaboaaGreatQF11
set_option maxRecDepth 20000
set_option maxHeartbeats 12800000
set_option linter.unusedVariables false
set_option linter.unusedSimpArgs false
namespace Go.Proofs.YtdngkgickbaboaaGreat
open Go.Value renaming int→I,slice→Λ,pointer→Ω,string→Ψ,oneCell'→Γ
open Go.IntKind renaming i64→J
open _root_.Go.Proofs.Tryz renaming prog→Φ
open Nat renaming le_refl→Θ
open Nat renaming le_trans→Ξ
open Go.Ending renaming returned→η
open Go.ChangeShapes Go.WideShapes Go.ChangeAt Go.RowKit
def Zis:List Fl→Ds
 |[]=>.nil
 |f::r=>.int f.kind (.int f.op (.int f.n (.str f.name (Zis r))))
def Se.ds(s:Se):Ds:=.int s.kind (.int s.side (.int s.wh (.int s.lane (.row s.fs.length (Zis s.fs) (.int s.pick .nil)))))
theorem Zla(N:Nat→Prop)(w:World):∀ l:List Fl,Zt N w (Zis l) (Zgi l)
 |[]=>rfl
 |f::r=>⟨_,rfl,_,rfl,_,rfl,_,rfl,Zla N w r⟩
theorem Zdr:(Tryz.prog.underlying 49).map TypeDesc.isRow=some true:=by kernel_rfl
theorem Wd:(Tryz.prog.info? 49).map (·.size)=some 6:=by kernel_rfl
theorem Zne:(Tryz.prog.info? 47).map (·.size)=some 1:=by kernel_rfl
def Zac(w:World)(q c r K:Nat)(L:List TokV)(st:St)(ds:Ds)(e:Ending)(w':World):Prop:=
 ∃ vs:List Value,e=η (.agg vs.toArray)∧Zt (fun k=>w.heap.size≤k) w' ds vs∧Wg w w' q c r K L st
theorem Zt.move{B:Nat}{w w':World}{q c r K:Nat}{L:List TokV}{st:St}{ds:Ds}{vs:List Value}(h:Zt (fun k=>B≤k) w ds vs)(m:Wg w w' q c r K L st)(hq:q<B)(hc:c<B):Zt (fun k=>B≤k) w' ds vs:=
 h.keeps m.keeps fun k _ hk=>⟨fun e=>by omega,hk⟩
theorem Zt.put{B:Nat}{w w':World}{g:Nat}{t:TypeId}{cs:List Value}{ds:Ds}{vs:List Value}(h:Zt (fun k=>B≤k) w ds vs)(p:Put w w' g t cs)(hg:g<B):Zt (fun k=>B≤k) w' ds vs:=
 h.keeps p.keeps fun k _ hk=>⟨fun e=>by omega,hk⟩
theorem Zt.lower{B C:Nat}{w:World}{ds:Ds}{vs:List Value}(h:Zt (fun k=>B≤k) w ds vs)(hc:C≤B):Zt (fun k=>C≤k) w ds vs:=h.mono fun k _ hk=>by omega
theorem xsel(w:World)(q c r K:Nat)(L:List TokV)(st:St)(n:Nat)(h:PAt w q c r K L st)(hn:Zw L st+1≤n)(hLn:Zw L st≤68719476736) :
  Calls Φ 130 #[Ω (some ⟨q,0,none⟩)] w (Zac w q c r K L (Wa 5 L n st).2 (Wa 5 L n st).1.ds):=by
 have qin:=h.whole.inside;have cin:=h.cin;have rin:=h.rin;have nb:=Zj w (.cells #[I J 0,I J 0,I J 0,I J 0,Λ none 0 0,I J 0] 49);have M0:=Hh ((Wg.start h).next nb);have R0:=Hh (Ze.made w 49 #[I J 0,I J 0,I J 0,I J 0,Λ none 0 0,I J 0]);have hf:Calls Φ 167 #[Ω (some ⟨q,0,none⟩),Λ (some ⟨w.heap.size+1,0,none⟩) 3 3] ((w.alloc (.cells #[I J 0,I J 0,I J 0,I J 0,Λ none 0 0,I J 0] 49)).alloc (.cells #[Ψ ⟨#[109,101]⟩,Ψ ⟨#[105,116]⟩,Ψ ⟨#[40]⟩] 9)) fun e w'=>e=η (I J (Zh L Yo st))∧Wg (w.alloc (.cells #[I J 0,I J 0,I J 0,I J 0,Λ none 0 0,I J 0] 49)) w' q c r K L (Zp L Yo st):=xoneB _ q c r K (w.heap.size+1) L st Yo 3 3 _ rfl (by simp) M0.out.at_ rfl (by decide)
 have hr1:=Xy L Yo st;clear h nb;unfold Wa;generalize hk:Zh L Yo st=k at *;generalize hs1:Zp L Yo st=s1 at *;clear hk hs1;by_cases h3:k=3
 ·subst h3
  rw[if_pos rfl];unfold Jo Zcj;have hr2:=Xy L Zg s1;have hr3:=Xy L Zz (Zp L Zg s1);generalize hsd:Zh L Zg s1=sd at *;generalize hs2:Zp L Zg s1=s2 at *;have hside:∀ w,PAt w q c r K L s1→Calls Φ 131 #[Ω (some ⟨q,0,none⟩)] w (Xw w q c r K L s2 (I J (sd:Int))):=fun w h=>by rw[←hsd,←hs2];exact xside w q c r K L s1 h
  generalize hwh:Zh L Zz s2=wh at *;generalize hs3:Zp L Zz s2=s3 at *;have hwhe:∀ W G,G=W.heap.size→PAt W q c r K L s2→Calls Φ 167 #[Ω (some ⟨q,0,none⟩),Λ (some ⟨G,0,none⟩) 4 4] (W.alloc (.cells #[Ψ ⟨#[104,101,114,101]⟩,Ψ ⟨#[97,119,97,121]⟩,Ψ ⟨#[108,97,110,101]⟩,Ψ ⟨#[97,110,121,119,104,101,114,101]⟩] 9)) fun e w'=>e=η (I J (wh:Int))∧Wg W w' q c r K L s3:=fun W G h2 h=>by rw[←hwh,←hs3];exact xoneB W q c r K G L s2 Zz 4 4 _ rfl h2 h rfl (by decide)
  clear hsd hs2 hwh hs3;rw[show((3:Nat):Int)=3 from rfl]at hf;have hwi:(wh:Int)=3↔wh=3:=by omega
  have hii:=Zhq L s3;by_cases hw3:wh=3
  · rw[if_pos hw3,if_pos hw3]
    have hw3':((wh:Int) == 3)=true:=by rw[hw3];rfl
    generalize hln:Zfe L s3=ln at *;have hrd:∀ w,PAt w q c r K L s3→Calls Φ 133 #[Ω (some ⟨q,0,none⟩),.func (.func 168) #[Ji c s3] #[]] w (Xw w q c r K L (Zba L s3) (I J ln)):=fun w h=>by rw[←hln];exact xreadInt w q c r K L s3 h
    generalize hs4:Zba L s3=s4 at *;have hfi:∀ w,PAt w q c r K L s4→Calls Φ 169 #[Ω (some ⟨q,0,none⟩)] w (Zli w q c r K L (Yf 5 L n s4)):=fun w h=>xfilters w q c r K L s4 n h (by omega) (by omega)
    generalize hfs:Yf 5 L n s4=fs at *;generalize hpk:Zh L Wo fs.2=pk at *;generalize hs5:Zp L Wo fs.2=s5 at *;have hpi:∀ W G,G=W.heap.size→PAt W q c r K L fs.2→Calls Φ 167 #[Ω (some ⟨q,0,none⟩),Λ (some ⟨G,0,none⟩) 5 5] (W.alloc (.cells #[Ψ ⟨#[97,108,108]⟩,Ψ ⟨#[102,105,114,115,116]⟩,Ψ ⟨#[108,97,115,116]⟩,Ψ ⟨#[119,101,97,107,101,115,116]⟩,Ψ ⟨#[115,116,114,111,110,103,101,115,116]⟩] 9)) fun e w'=>e=η (I J (pk:Int))∧Wg W w' q c r K L s5:=fun W G h2 h=>by rw[←hpk,←hs5];exact xoneB W q c r K G L fs.2 Wo 5 5 _ rfl h2 h rfl (by decide)
    clear hln hs4 hfs hpk hs5 hr1 hr2 hr3 hii hwi hn hLn hw3;go_enter Tryz.func130,Tryz.ntmps130;go_wp2_with(first
 |(go_at_call 167;(with_reducible refine hf.mono ?_);rintro e w1 ⟨rfl,m1⟩
   have nb:=Zj w1 (.cells #[I J 3,I J 0,I J 0,I J 0,Λ none 0 0,I J 0] 49);have hz0:w.heap.size+1≤w1.heap.size:=by have:=m1.keeps.size;simp at this;omega
   have T1:=Hh (Ze.made w1 49 #[I J 3,I J 0,I J 0,I J 0,Λ none 0 0,I J 0]);have R1:=Hh ((m1.keeps.whole R0.out (by omega)).below nb (by omega));have M1:=Hh ((M0.out.then m1).next nb);clear m1 nb)
 |(go_at_call 131;refine(hside _ M1.out.at_).mono ?_;rintro e w2 ⟨rfl,m2⟩
   have hz2:w1.heap.size+1≤w2.heap.size:=by have:=m2.keeps.size;(try simp at this);omega
   have T2:=Hh (m2.keeps.whole T1.out (by omega));have R2:=Hh (m2.keeps.whole R1.out (by omega));have M2:=Hh (M1.out.then m2);have hcell:=M2.out.at_.cell;clear m2)
 |((with_reducible refine Zi 14 13 ?_);refine Zm 3 _ _ 49 w1.heap.size 1 [I J 3] (I J 0) (I J (sd:Int)) [I J 0,I J 0,Λ none 0 0,I J 0] T2.out rfl Yk rfl rfl rfl rfl rfl rfl ?_
   intro w3 p3;have T3:=Hh (show Ze w3 w1.heap.size 49 [I J 3,I J (sd:Int),I J 0,I J 0,Λ none 0 0,I J 0].toArray from p3.whole);have R3:=Hh (p3.keeps.whole R2.out (by omega));have M3:=Hh (M2.out.put p3 (by omega) qin cin rin);have hcell:=M3.out.at_.cell;have hz3:w1.heap.size+1≤w3.heap.size:=by have:=p3.keeps.size;omega
   clear p3)
 |(go_at_call 167;(with_reducible refine(hwhe _ _ ?_ ?_).mono ?_);rfl;exact M3.out.at_;rintro e w4 ⟨rfl,m4⟩
   have hz4:=Ξ hz3 m4.keeps.size;have T4:=Hh (m4.keeps.whole T3.out (by omega));have R4:=Hh (m4.keeps.whole R3.out (by omega));have M4:=Hh (M3.out.then m4);have hcell:=M4.out.at_.cell;clear m4)
 |((with_reducible refine Zi 18 17 ?_);refine Zm 3 _ _ 49 w1.heap.size 2 [I J 3,I J (sd:Int)] (I J 0) (I J (wh:Int)) [I J 0,Λ none 0 0,I J 0] T4.out rfl Yk rfl rfl rfl rfl rfl rfl ?_
   intro w5 p5;have T5:=Hh (show Ze w5 w1.heap.size 49 [I J 3,I J (sd:Int),I J (wh:Int),I J 0,Λ none 0 0,I J 0].toArray from p5.whole);have R5:=Hh (p5.keeps.whole R4.out (by omega));have M5:=Hh (M4.out.put p5 (by omega) qin cin rin);have hcell:=M5.out.at_.cell;have hz5:w1.heap.size+1≤w5.heap.size:=by have:=p5.keeps.size;omega
   have hw2:w5.cell? ⟨w1.heap.size,2,none⟩=some (I J (wh:Int)):=T5.out.read 2;clear p5)
 |(go_at_call 133;refine(hrd _ M5.out.at_).mono ?_;rintro e w6 ⟨rfl,m6⟩
   have hz6:=Ξ hz5 m6.keeps.size;have T6:=Hh (m6.keeps.whole T5.out (by omega));have R6:=Hh (m6.keeps.whole R5.out (by omega));have M6:=Hh (M5.out.then m6);have hcell:=M6.out.at_.cell;clear m6)
 |((with_reducible refine Zi 29 28 ?_);refine Zm 3 _ _ 49 w1.heap.size 3 [I J 3,I J (sd:Int),I J (wh:Int)] (I J 0) (I J ln) [Λ none 0 0,I J 0] T6.out rfl Yk rfl rfl rfl rfl rfl rfl ?_
   intro w7 p7;have T7:=Hh (show Ze w7 w1.heap.size 49 [I J 3,I J (sd:Int),I J (wh:Int),I J ln,Λ none 0 0,I J 0].toArray from p7.whole);have R7:=Hh (p7.keeps.whole R6.out (by omega));have M7:=Hh (M6.out.put p7 (by omega) qin cin rin);have hcell:=M7.out.at_.cell;have hz7:w1.heap.size+1≤w7.heap.size:=by have:=p7.keeps.size;omega
   clear p7)
 |(go_at_call 169;refine(hfi _ M7.out.at_).mono ?_;rintro e w8 ⟨v8,rfl,r8⟩
   have m8:=r8.mv;have hz8:=Ξ hz7 m8.keeps.size;have T8:=Hh (m8.keeps.whole T7.out (by omega));have R8:=Hh (m8.keeps.whole R7.out (by omega));have M8:=Hh (M7.out.then m8);have hcell:=M8.out.at_.cell;obtain⟨A8,c8,rfl,hn8,hw8⟩:=Zmu r8.row;have D8:=Hh (show Zt (fun k=>w1.heap.size+1≤k) w8 (.row fs.1.length (Zis fs.1) .nil) [Λ A8 fs.1.length c8]from Zt.rowOf r8.row (fun k hk=>by omega) (Zla _ _ _));clear m8 r8 hw8 hn8)
 |((with_reducible refine Zi 32 31 ?_);refine Zm 47 _ _ 49 w1.heap.size 4 [I J 3,I J (sd:Int),I J (wh:Int),I J ln] (Λ none 0 0) (Λ A8 fs.1.length c8) [I J 0] T8.out rfl Zne rfl rfl rfl rfl rfl rfl ?_
   intro w9 p9;have T9:=Hh (show Ze w9 w1.heap.size 49 [I J 3,I J (sd:Int),I J (wh:Int),I J ln,Λ A8 fs.1.length c8,I J 0].toArray from p9.whole);have R9:=Hh (p9.keeps.whole R8.out (by omega));have M9:=Hh (M8.out.put p9 (by omega) qin cin rin);have hcell:=M9.out.at_.cell;have hz9:w1.heap.size+1≤w9.heap.size:=by have:=p9.keeps.size;omega
   have D9:=Hh (D8.out.put p9 (by omega));clear p9)
 |(go_at_call 167;(with_reducible refine(hpi _ _ ?_ ?_).mono ?_);rfl;exact M9.out.at_;rintro e w10 ⟨rfl,m10⟩
   have hz10:=Ξ hz9 m10.keeps.size;have T10:=Hh (m10.keeps.whole T9.out (by omega));have R10:=Hh (m10.keeps.whole R9.out (by omega));have M10:=Hh (M9.out.then m10);have hcell:=M10.out.at_.cell;have D10:=Hh (D9.out.move m10 (by omega) (by omega));clear m10)
 |((with_reducible refine Zi 36 35 ?_);refine Zm 3 _ _ 49 w1.heap.size 5 [I J 3,I J (sd:Int),I J (wh:Int),I J ln,Λ A8 fs.1.length c8] (I J 0) (I J (pk:Int)) [] T10.out rfl Yk rfl rfl rfl rfl rfl rfl ?_
   intro w11 p11;have T11:=Hh (show Ze w11 w1.heap.size 49 [I J 3,I J (sd:Int),I J (wh:Int),I J ln,Λ A8 fs.1.length c8,I J (pk:Int)].toArray from p11.whole);have R11:=Hh (p11.keeps.whole R10.out (by omega));have M11:=Hh (M10.out.put p11 (by omega) qin cin rin);have hcell:=M11.out.at_.cell;have hz11:w1.heap.size+1≤w11.heap.size:=by have:=p11.keeps.size;omega
   have D11:=Hh (D10.out.put p11 (by omega));clear p11)
 |(go_at_call 170;refine(xwant _ q c r K L _ Vb M11.out.at_).mono ?_;rintro e w12 ⟨rfl,m12⟩
   have hz12:=Ξ hz11 m12.keeps.size;have T12:=Hh (m12.keeps.whole T11.out (by omega));have R12:=Hh (m12.keeps.whole R11.out (by omega));have M12:=Hh (M11.out.then m12);have hcell:=M12.out.at_.cell;have D12:=Hh (D11.out.move m12 (by omega) (by omega));clear m12)
 |((with_reducible refine Zd 39 ?_);refine Zb 49 _ 49 w1.heap.size _ T12.out Zdr Wd rfl rfl rfl ?_)
 |((with_reducible refine Zi 2 39 ?_);refine Za 49 _ _ 49 w.heap.size _ [I J 3,I J (sd:Int),I J (wh:Int),I J ln,Λ A8 fs.1.length c8,I J (pk:Int)] R12.out rfl Wd (by simp[Γ]) rfl rfl rfl rfl rfl ?_
   intro w13 p13;have R13:=Hh p13.whole;have M13:=Hh (M12.out.put p13 (Θ _) qin cin rin);have D13:=Hh (D12.out.put p13 (by omega))
   clear p13))
    refine Wu 2 49 49 w.heap.size _ rfl R13.out Zdr Wd rfl rfl ⟨_,rfl,?_,M13.out⟩;obtain⟨A,c',xs,t,e1,e2,e3,e4,e5⟩:=D13.out;injection e1 with e1 e6;injection e1 with e7 _ e8;subst e7 e8;exact⟨_,rfl,_,rfl,_,rfl,_,rfl,A8,c8,xs,_,rfl,e2,(e3.keeps (S:=fun _=>False) (Zy.refl _ _) fun k _ hk=>⟨id,by omega⟩),e4.lower (by omega),_,rfl,rfl⟩
  · rw[if_neg hw3,if_neg hw3]
    have hw3':((wh:Int) == 3)=false:=by rw[beq_eq_false_iff_ne];omega
    obtain⟨s4,hs4,hii⟩:∃ s4,s3=s4∧Zw L s4≤Zw L s3:=⟨s3,rfl,Θ _⟩
    subst hs4;have hfi:∀ w,PAt w q c r K L s3→Calls Φ 169 #[Ω (some ⟨q,0,none⟩)] w (Zli w q c r K L (Yf 5 L n s3)):=fun w h=>xfilters w q c r K L s3 n h (by omega) (by omega)
    generalize hfs:Yf 5 L n s3=fs at *;generalize hpk:Zh L Wo fs.2=pk at *;generalize hs5:Zp L Wo fs.2=s5 at *;have hpi:∀ W G,G=W.heap.size→PAt W q c r K L fs.2→Calls Φ 167 #[Ω (some ⟨q,0,none⟩),Λ (some ⟨G,0,none⟩) 5 5] (W.alloc (.cells #[Ψ ⟨#[97,108,108]⟩,Ψ ⟨#[102,105,114,115,116]⟩,Ψ ⟨#[108,97,115,116]⟩,Ψ ⟨#[119,101,97,107,101,115,116]⟩,Ψ ⟨#[115,116,114,111,110,103,101,115,116]⟩] 9)) fun e w'=>e=η (I J (pk:Int))∧Wg W w' q c r K L s5:=fun W G h2 h=>by rw[←hpk,←hs5];exact xoneB W q c r K G L fs.2 Wo 5 5 _ rfl h2 h rfl (by decide)
    clear hfs hpk hs5 hr1 hr2 hr3 hii hwi hn hLn hw3;go_enter Tryz.func130,Tryz.ntmps130;go_wp2_with(first
 |(go_at_call 167;(with_reducible refine hf.mono ?_);rintro e w1 ⟨rfl,m1⟩
   have nb:=Zj w1 (.cells #[I J 3,I J 0,I J 0,I J 0,Λ none 0 0,I J 0] 49);have hz0:w.heap.size+1≤w1.heap.size:=by have:=m1.keeps.size;simp at this;omega
   have T1:=Hh (Ze.made w1 49 #[I J 3,I J 0,I J 0,I J 0,Λ none 0 0,I J 0]);have R1:=Hh ((m1.keeps.whole R0.out (by omega)).below nb (by omega));have M1:=Hh ((M0.out.then m1).next nb);clear m1 nb)
 |(go_at_call 131;refine(hside _ M1.out.at_).mono ?_;rintro e w2 ⟨rfl,m2⟩
   have hz2:w1.heap.size+1≤w2.heap.size:=by have:=m2.keeps.size;(try simp at this);omega
   have T2:=Hh (m2.keeps.whole T1.out (by omega));have R2:=Hh (m2.keeps.whole R1.out (by omega));have M2:=Hh (M1.out.then m2);have hcell:=M2.out.at_.cell;clear m2)
 |((with_reducible refine Zi 14 13 ?_);refine Zm 3 _ _ 49 w1.heap.size 1 [I J 3] (I J 0) (I J (sd:Int)) [I J 0,I J 0,Λ none 0 0,I J 0] T2.out rfl Yk rfl rfl rfl rfl rfl rfl ?_
   intro w3 p3;have T3:=Hh (show Ze w3 w1.heap.size 49 [I J 3,I J (sd:Int),I J 0,I J 0,Λ none 0 0,I J 0].toArray from p3.whole);have R3:=Hh (p3.keeps.whole R2.out (by omega));have M3:=Hh (M2.out.put p3 (by omega) qin cin rin);have hcell:=M3.out.at_.cell;have hz3:w1.heap.size+1≤w3.heap.size:=by have:=p3.keeps.size;omega
   clear p3)
 |(go_at_call 167;(with_reducible refine(hwhe _ _ ?_ ?_).mono ?_);rfl;exact M3.out.at_;rintro e w4 ⟨rfl,m4⟩
   have hz4:=Ξ hz3 m4.keeps.size;have T4:=Hh (m4.keeps.whole T3.out (by omega));have R4:=Hh (m4.keeps.whole R3.out (by omega));have M4:=Hh (M3.out.then m4);have hcell:=M4.out.at_.cell;clear m4)
 |((with_reducible refine Zi 18 17 ?_);refine Zm 3 _ _ 49 w1.heap.size 2 [I J 3,I J (sd:Int)] (I J 0) (I J (wh:Int)) [I J 0,Λ none 0 0,I J 0] T4.out rfl Yk rfl rfl rfl rfl rfl rfl ?_
   intro w5 p5;have T5:=Hh (show Ze w5 w1.heap.size 49 [I J 3,I J (sd:Int),I J (wh:Int),I J 0,Λ none 0 0,I J 0].toArray from p5.whole);have R5:=Hh (p5.keeps.whole R4.out (by omega));have M5:=Hh (M4.out.put p5 (by omega) qin cin rin);have hcell:=M5.out.at_.cell;have hz5:w1.heap.size+1≤w5.heap.size:=by have:=p5.keeps.size;omega
   have hw2:w5.cell? ⟨w1.heap.size,2,none⟩=some (I J (wh:Int)):=T5.out.read 2;clear p5)
 |(go_at_call 169;refine(hfi _ M5.out.at_).mono ?_;rintro e w8 ⟨v8,rfl,r8⟩
   have m8:=r8.mv;have hz8:=Ξ hz5 m8.keeps.size;have T8:=Hh (m8.keeps.whole T5.out (by omega));have R8:=Hh (m8.keeps.whole R5.out (by omega));have M8:=Hh (M5.out.then m8);have hcell:=M8.out.at_.cell;obtain⟨A8,c8,rfl,hn8,hw8⟩:=Zmu r8.row;have D8:=Hh (show Zt (fun k=>w1.heap.size+1≤k) w8 (.row fs.1.length (Zis fs.1) .nil) [Λ A8 fs.1.length c8]from Zt.rowOf r8.row (fun k hk=>by omega) (Zla _ _ _));clear m8 r8 hw8 hn8)
 |((with_reducible refine Zi 32 31 ?_);refine Zm 47 _ _ 49 w1.heap.size 4 [I J 3,I J (sd:Int),I J (wh:Int),I J 0] (Λ none 0 0) (Λ A8 fs.1.length c8) [I J 0] T8.out rfl Zne rfl rfl rfl rfl rfl rfl ?_
   intro w9 p9;have T9:=Hh (show Ze w9 w1.heap.size 49 [I J 3,I J (sd:Int),I J (wh:Int),I J 0,Λ A8 fs.1.length c8,I J 0].toArray from p9.whole);have R9:=Hh (p9.keeps.whole R8.out (by omega));have M9:=Hh (M8.out.put p9 (by omega) qin cin rin);have hcell:=M9.out.at_.cell;have hz9:w1.heap.size+1≤w9.heap.size:=by have:=p9.keeps.size;omega
   have D9:=Hh (D8.out.put p9 (by omega));clear p9)
 |(go_at_call 167;(with_reducible refine(hpi _ _ ?_ ?_).mono ?_);rfl;exact M9.out.at_;rintro e w10 ⟨rfl,m10⟩
   have hz10:=Ξ hz9 m10.keeps.size;have T10:=Hh (m10.keeps.whole T9.out (by omega));have R10:=Hh (m10.keeps.whole R9.out (by omega));have M10:=Hh (M9.out.then m10);have hcell:=M10.out.at_.cell;have D10:=Hh (D9.out.move m10 (by omega) (by omega));clear m10)
 |((with_reducible refine Zi 36 35 ?_);refine Zm 3 _ _ 49 w1.heap.size 5 [I J 3,I J (sd:Int),I J (wh:Int),I J 0,Λ A8 fs.1.length c8] (I J 0) (I J (pk:Int)) [] T10.out rfl Yk rfl rfl rfl rfl rfl rfl ?_
   intro w11 p11;have T11:=Hh (show Ze w11 w1.heap.size 49 [I J 3,I J (sd:Int),I J (wh:Int),I J 0,Λ A8 fs.1.length c8,I J (pk:Int)].toArray from p11.whole);have R11:=Hh (p11.keeps.whole R10.out (by omega));have M11:=Hh (M10.out.put p11 (by omega) qin cin rin);have hcell:=M11.out.at_.cell;have hz11:w1.heap.size+1≤w11.heap.size:=by have:=p11.keeps.size;omega
   have D11:=Hh (D10.out.put p11 (by omega));clear p11)
 |(go_at_call 170;refine(xwant _ q c r K L _ Vb M11.out.at_).mono ?_;rintro e w12 ⟨rfl,m12⟩
   have hz12:=Ξ hz11 m12.keeps.size;have T12:=Hh (m12.keeps.whole T11.out (by omega));have R12:=Hh (m12.keeps.whole R11.out (by omega));have M12:=Hh (M11.out.then m12);have hcell:=M12.out.at_.cell;have D12:=Hh (D11.out.move m12 (by omega) (by omega));clear m12)
 |((with_reducible refine Zd 39 ?_);refine Zb 49 _ 49 w1.heap.size _ T12.out Zdr Wd rfl rfl rfl ?_)
 |((with_reducible refine Zi 2 39 ?_);refine Za 49 _ _ 49 w.heap.size _ [I J 3,I J (sd:Int),I J (wh:Int),I J 0,Λ A8 fs.1.length c8,I J (pk:Int)] R12.out rfl Wd (by simp[Γ]) rfl rfl rfl rfl rfl ?_
   intro w13 p13;have R13:=Hh p13.whole;have M13:=Hh (M12.out.put p13 (Θ _) qin cin rin);have D13:=Hh (D12.out.put p13 (by omega))
   clear p13))
    refine Wu 2 49 49 w.heap.size _ rfl R13.out Zdr Wd rfl rfl ⟨_,rfl,?_,M13.out⟩;obtain⟨A,c',xs,t,e1,e2,e3,e4,e5⟩:=D13.out;injection e1 with e1 e6;injection e1 with e7 _ e8;subst e7 e8;exact⟨_,rfl,_,rfl,_,rfl,_,rfl,A8,c8,xs,_,rfl,e2,(e3.keeps (S:=fun _=>False) (Zy.refl _ _) fun k _ hk=>⟨id,by omega⟩),e4.lower (by omega),_,rfl,rfl⟩
 ·rw[if_neg h3]
  have q3:((k:Int) == 3)=false:=by rw[beq_eq_false_iff_ne];omega
  have q4:((k:Int) != 3)=true:=by rw[bne_iff_ne];omega
  clear h3 hr1 hn hLn;go_enter Tryz.func130,Tryz.ntmps130;go_wp2_with(first
 |(go_at_call 167;(with_reducible refine hf.mono ?_);rintro e w1 ⟨rfl,m1⟩
   have nb:=Zj w1 (.cells #[I J (k:Int),I J 0,I J 0,I J 0,Λ none 0 0,I J 0] 49);have hz0:w.heap.size+1≤w1.heap.size:=by have:=m1.keeps.size;simp at this;omega
   have T1:=Hh (Ze.made w1 49 #[I J (k:Int),I J 0,I J 0,I J 0,Λ none 0 0,I J 0]);have R1:=Hh ((m1.keeps.whole R0.out (by omega)).below nb (by omega));have M1:=Hh ((M0.out.then m1).next nb);clear m1 nb)
 |((with_reducible refine Zd 11 ?_);refine Zb 49 _ 49 w1.heap.size _ T1.out Zdr Wd rfl rfl rfl ?_)
 |((with_reducible refine Zi 2 11 ?_);refine Za 49 _ _ 49 w.heap.size _ [I J (k:Int),I J 0,I J 0,I J 0,Λ none 0 0,I J 0] R1.out rfl Wd (by simp[Γ]) rfl rfl rfl rfl rfl ?_
   intro w13 p13;have R13:=Hh p13.whole;have M13:=Hh (M1.out.put p13 (Θ _) qin cin rin);clear p13))
  exact Wu 2 49 49 w.heap.size _ rfl R13.out Zdr Wd rfl rfl ⟨_,rfl,⟨_,rfl,_,rfl,_,rfl,_,rfl,none,0,[],_,rfl,by simp,.inl rfl,rfl,_,rfl,rfl⟩,M13.out⟩
def Ex.ds:Ex→Ds
 |.leaf k n s sd tk tl=>.int k (.int n (s.ds.app (.int sd (.int tk (.int tl (.row 0 .nil .nil))))))
 |.bin op l r=>.int 7 (.int op (zSe.ds.app (.int 0 (.int 0 (.int 0 (.row 2 (l.ds.app r.ds) .nil))))))
theorem Ex.ds_len:∀ x:Ex,x.ds.len=12
 |.leaf _ _ _ _ _ _=>rfl
 |.bin _ _ _=>rfl
theorem Xk:(Tryz.prog.underlying 54).map TypeDesc.isRow=some true:=by kernel_rfl
theorem Ym:(Tryz.prog.info? 54).map (·.size)=some 12:=by kernel_rfl
theorem Zdf:∀ vs:List Value,vs.length=12→∃ a b c d e f g h i j k l,vs=[a,b,c,d,e,f,g,h,i,j,k,l]
 |[a,b,c,d,e,f,g,h,i,j,k,l],_=>⟨a,b,c,d,e,f,g,h,i,j,k,l,rfl⟩
def BinPost(w:World)(op:Int)(ls rs:List Value)(e:Ending)(w':World):Prop:=
 ∃ g,w.heap.size≤g∧g<w'.heap.size∧e=η (.agg [I J 7,I J op,I J 0,I J 0,I J 0,I J 0,Λ none 0 0,I J 0,I J 0,I J 0,I J 0,Λ (some ⟨g,0,none⟩) 2 2].toArray) ∧
  (∀ j,j<(ls++rs).length→w'.cell? ⟨g,j,none⟩=(ls++rs)[j]?)∧Below w.heap.size w w'
theorem xbinary(w:World)(op:Int)(ls rs:List Value)(hl:ls.length=12)(hr:rs.length=12)(h1:∀ v ∈ ls,v.oneCell'=true)(h2:∀ v ∈ rs,v.oneCell'=true) :
  Calls Φ 76 #[I J op,.agg ls.toArray,.agg rs.toArray] w (BinPost w op ls rs):=by
 obtain⟨a0,a1,a2,a3,a4,a5,a6,a7,a8,a9,a10,a11,rfl⟩:=Zdf ls hl;obtain⟨b0,b1,b2,b3,b4,b5,b6,b7,b8,b9,b10,b11,rfl⟩:=Zdf rs hr;have B1:=Ze.made w 54 [a0,a1,a2,a3,a4,a5,a6,a7,a8,a9,a10,a11].toArray;have B2:=B1.alloc (.cells [b0,b1,b2,b3,b4,b5,b6,b7,b8,b9,b10,b11].toArray 54);clear hl hr h1 h2;go_enter Tryz.func76,Tryz.ntmps76;go_wp2
 have HW:=(Ze.made ((w.alloc (.cells #[a0,a1,a2,a3,a4,a5,a6,a7,a8,a9,a10,a11] 54)).alloc (.cells #[b0,b1,b2,b3,b4,b5,b6,b7,b8,b9,b10,b11] 54)) 54 [I J 7,I J op,I J 0,I J 0,I J 0,I J 0,Λ none 0 0,I J 0,I J 0,I J 0,I J 0,Λ (some ⟨w.heap.size+1+1+1,0,none⟩) 2 2].toArray).alloc (.cells #[a0,a1,a2,a3,a4,a5,a6,a7,a8,a9,a10,a11,b0,b1,b2,b3,b4,b5,b6,b7,b8,b9,b10,b11] 54);simp only[World.size_alloc]at HW;refine Wu 6 54 54 (w.heap.size+1+1) _ rfl HW Xk Ym rfl rfl ⟨w.heap.size+1+1+1,by omega,by simp,rfl,?_,?_⟩
 ·have HR:=Ze.made (((w.alloc (.cells #[a0,a1,a2,a3,a4,a5,a6,a7,a8,a9,a10,a11] 54)).alloc (.cells #[b0,b1,b2,b3,b4,b5,b6,b7,b8,b9,b10,b11] 54)).alloc (.cells [I J 7,I J op,I J 0,I J 0,I J 0,I J 0,Λ none 0 0,I J 0,I J 0,I J 0,I J 0,Λ (some ⟨w.heap.size+1+1+1,0,none⟩) 2 2].toArray 54)) 54 #[a0,a1,a2,a3,a4,a5,a6,a7,a8,a9,a10,a11,b0,b1,b2,b3,b4,b5,b6,b7,b8,b9,b10,b11]
  simp only[World.size_alloc]at HR;intro j _;rw[HR.read j];simp
 ·exact((((Below.refl _ _).alloc (Θ _) _).alloc (by simp) _).alloc (by simp;omega) _).alloc (by simp;omega) _
end Go.Proofs.YtdngkgickbaboaaGreat
