/- Parts of the proof. No conditions but those that each names. -/
import Derived.Test.YtbdecchpleiepaaGreatQL37
set_option maxRecDepth 20000
set_option maxHeartbeats 99000000
set_option linter.unusedVariables false
set_option linter.unusedSimpArgs false
namespace Go.Proofs.YtbdecchpleiepaaGreat
open Go.Value renaming int→I,slice→Λ,pointer→Ω,string→Ψ,oneCell'→Γ
open Go.IntKind renaming i64→J
open _root_.Go.Proofs.Tryz renaming prog→Φ
open Nat renaming le_refl→Θ
open Nat renaming le_trans→Ξ
open And renaming intro→ζ
open Go.Ending renaming returned→η
open Go.ChangeShapes Go.WideShapes Go.ChangeAt Go.RowKit
theorem kplain7(k:Nat)(hk:k=7)(w:World)(q c r K:Nat)(L:List TokV)(st:St)(n:Nat)(h:PAt w q c r K L st)(hn:4*Zx L st+3≤n)(hLn:Zx L st≤68719476736)
  (hex0:∀(w:World)(q c r K:Nat),PAt w q c r K L (Zn L Zq st)→Calls Φ 182 #[Ω (some ⟨q,0,none⟩)] w (Vq w q c r K L (Yj 5 L n (Zn L Zq st)).2 (Yj 5 L n (Zn L Zq st)).1.ds)) :
  Calls Φ 164 #[Ω (some ⟨q,0,none⟩),I J (k:Int)] w (Vq w q c r K L (Xi 5 L n (AH.zero 0 0 0) k st).2 ((Xi 5 L n (AH.zero 0 0 0) k st).1.dsr 0 .nil 0 .nil)):=by
 have qin:=h.whole.inside;have cin:=h.cin;have rin:=h.rin;have nb:=Zh w (.cells #[I J 0,I J 0,I J 0,I J 0,I J 0,I J 0,I J 0,Λ none 0 0,I J 0,I J 0,I J 0,I J 0,I J 0,I J 0,I J 0,Λ none 0 0,I J 0,I J 0,I J 0,I J 0,Λ none 0 0,I J 0,I J 0,I J 0,I J 0,Ψ ⟨#[]⟩,I J 0,I J 0,I J 0,I J 0,I J 0,I J 0,I J 0,Λ none 0 0,I J 0,I J 0,I J 0,I J 0,Λ none 0 0,I J 0,I J 0,I J 0,I J 0,I J 0,I J 0,Λ none 0 0,I J 0,I J 0,I J 0,I J 0,Λ none 0 0,Λ none 0 0,Λ none 0 0] 85);have nb2:=Zh (w.alloc (.cells #[I J 0,I J 0,I J 0,I J 0,I J 0,I J 0,I J 0,Λ none 0 0,I J 0,I J 0,I J 0,I J 0,I J 0,I J 0,I J 0,Λ none 0 0,I J 0,I J 0,I J 0,I J 0,Λ none 0 0,I J 0,I J 0,I J 0,I J 0,Ψ ⟨#[]⟩,I J 0,I J 0,I J 0,I J 0,I J 0,I J 0,I J 0,Λ none 0 0,I J 0,I J 0,I J 0,I J 0,Λ none 0 0,I J 0,I J 0,I J 0,I J 0,I J 0,I J 0,Λ none 0 0,I J 0,I J 0,I J 0,I J 0,Λ none 0 0,Λ none 0 0,Λ none 0 0] 85)) (.cells #[I J 0,I J 0,I J 0,I J 0,I J 0,I J 0,I J 0,Λ none 0 0,I J 0,I J 0,I J 0,I J 0,I J 0,I J 0,I J 0,Λ none 0 0,I J 0,I J 0,I J 0,I J 0,Λ none 0 0,I J 0,I J 0,I J 0,I J 0,Ψ ⟨#[]⟩,I J 0,I J 0,I J 0,I J 0,I J 0,I J 0,I J 0,Λ none 0 0,I J 0,I J 0,I J 0,I J 0,Λ none 0 0,I J 0,I J 0,I J 0,I J 0,I J 0,I J 0,Λ none 0 0,I J 0,I J 0,I J 0,I J 0,Λ none 0 0,Λ none 0 0,Λ none 0 0] 85);have M0:=Hh (((Xw.start h).next nb).next nb2);have R0:=Hh (show Zi _ w.heap.size 85 (Vg).toArray from(Zi.made w 85 #[I J 0,I J 0,I J 0,I J 0,I J 0,I J 0,I J 0,Λ none 0 0,I J 0,I J 0,I J 0,I J 0,I J 0,I J 0,I J 0,Λ none 0 0,I J 0,I J 0,I J 0,I J 0,Λ none 0 0,I J 0,I J 0,I J 0,I J 0,Ψ ⟨#[]⟩,I J 0,I J 0,I J 0,I J 0,I J 0,I J 0,I J 0,Λ none 0 0,I J 0,I J 0,I J 0,I J 0,Λ none 0 0,I J 0,I J 0,I J 0,I J 0,I J 0,I J 0,Λ none 0 0,I J 0,I J 0,I J 0,I J 0,Λ none 0 0,Λ none 0 0,Λ none 0 0]).alloc (.cells #[I J 0,I J 0,I J 0,I J 0,I J 0,I J 0,I J 0,Λ none 0 0,I J 0,I J 0,I J 0,I J 0,I J 0,I J 0,I J 0,Λ none 0 0,I J 0,I J 0,I J 0,I J 0,Λ none 0 0,I J 0,I J 0,I J 0,I J 0,Ψ ⟨#[]⟩,I J 0,I J 0,I J 0,I J 0,I J 0,I J 0,I J 0,Λ none 0 0,I J 0,I J 0,I J 0,I J 0,Λ none 0 0,I J 0,I J 0,I J 0,I J 0,I J 0,I J 0,Λ none 0 0,I J 0,I J 0,I J 0,I J 0,Λ none 0 0,Λ none 0 0,Λ none 0 0] 85));have T0:=Hh (show Zi _ (w.heap.size+1) 85 (Vg).toArray from by have e:=Zi.made (w.alloc (.cells #[I J 0,I J 0,I J 0,I J 0,I J 0,I J 0,I J 0,Λ none 0 0,I J 0,I J 0,I J 0,I J 0,I J 0,I J 0,I J 0,Λ none 0 0,I J 0,I J 0,I J 0,I J 0,Λ none 0 0,I J 0,I J 0,I J 0,I J 0,Ψ ⟨#[]⟩,I J 0,I J 0,I J 0,I J 0,I J 0,I J 0,I J 0,Λ none 0 0,I J 0,I J 0,I J 0,I J 0,Λ none 0 0,I J 0,I J 0,I J 0,I J 0,I J 0,I J 0,Λ none 0 0,I J 0,I J 0,I J 0,I J 0,Λ none 0 0,Λ none 0 0,Λ none 0 0] 85)) 85 #[I J 0,I J 0,I J 0,I J 0,I J 0,I J 0,I J 0,Λ none 0 0,I J 0,I J 0,I J 0,I J 0,I J 0,I J 0,I J 0,Λ none 0 0,I J 0,I J 0,I J 0,I J 0,Λ none 0 0,I J 0,I J 0,I J 0,I J 0,Ψ ⟨#[]⟩,I J 0,I J 0,I J 0,I J 0,I J 0,I J 0,I J 0,Λ none 0 0,I J 0,I J 0,I J 0,I J 0,Λ none 0 0,I J 0,I J 0,I J 0,I J 0,I J 0,I J 0,Λ none 0 0,I J 0,I J 0,I J 0,I J 0,Λ none 0 0,Λ none 0 0,Λ none 0 0];rw[World.size_alloc]at e;exact e);clear nb nb2;have hcell:=M0.out.at_.cell;have hpl:Xi 5 L n (AH.zero 0 0 0) k st=((⟨0,0,0,zSe,(Yj 5 L n (Zn L Zq st)).1,(Zk L Zq st:Int),0,0,0,⟨#[]⟩,0,zEx,zEx⟩:AH),(Yj 5 L n (Zn L Zq st)).2):=by subst hk;rfl
 rw[hpl];clear hpl;have hr2:=Xy L Zq (st);have hsi:∀ w,PAt w q c r K L (st)→Calls Φ 187 #[Ω (some ⟨q,0,none⟩)] w (Ue w q c r K L (Zn L Zq (st)) (I J (Zk L Zq (st):Int))):=fun w h=>xside w q c r K L _ h
 generalize hsd:(Zk L Zq (st):Int)=sd at *;generalize Zn L Zq (st)=s2 at *;clear hsd;have hex:∀ w,PAt w q c r K L (s2)→Calls Φ 182 #[Ω (some ⟨q,0,none⟩)] w (Vq w q c r K L (Yj 5 L n (s2)).2 (Yj 5 L n (s2)).1.ds):=fun w h=>hex0 w q c r K h
 generalize Yj 5 L n (s2)=xn at *;clear h hn hLn hex0;subst hk
 all_goals
  go_enter Tryz.func164,Tryz.ntmps164;go_wp2_with(first
 |(go_at_call 187;refine(hsi _ M0.out.at_).mono ?_;rintro e w1 ⟨rfl,m1⟩
   have R1:=Hh (m1.keeps.whole R0.out (by omega));have T1:=Hh (m1.keeps.whole T0.out (by omega));have M1:=Hh (M0.out.then m1);have hz1:w.heap.size+2≤w1.heap.size:=by have:=m1.keeps.size;(try simp at this);omega
   have hcell:=M1.out.at_.cell;clear m1)
 |((with_reducible refine Zg 56 55 ?_);refine Zks 3 _ _ 85 (w.heap.size+1) T1.out rfl rfl Yw rfl rfl rfl rfl rfl rfl ?_
   intro w2 p2;have T2:=Hh (show Zi w2 (w.heap.size+1) 85 (Ym 0 0 0 zseL zexL sd 0 0 0 ⟨#[]⟩ 0 zexL zexL (Λ none 0 0) (Λ none 0 0)).toArray from by first | exact p2.whole | simpa using p2.whole);have R2:=Hh (p2.keeps.whole R1.out (by omega));have M2:=Hh (M1.out.put p2 (by omega) qin cin rin);have hz2:=Ξ hz1 p2.keeps.size;have hcell:=M2.out.at_.cell;clear p2)
 |(go_at_call 182;refine(hex _ M2.out.at_).mono ?_;rintro e w3 ⟨nv,rfl,d3,m3⟩
   have R3:=Hh (m3.keeps.whole R2.out (by omega));have T3:=Hh (m3.keeps.whole T2.out (by omega));have M3:=Hh (M2.out.then m3);have hz3:=Ξ hz2 m3.keeps.size;have hcell:=M3.out.at_.cell;have N3:=Hh (d3.lower (show w.heap.size+2≤_ by first | omega | (simp;done) | (simp;omega)));have NL:=Hh d3.len;clear m3 d3)
 |((with_reducible refine Zg 59 58 ?_);refine Zhk 81 _ _ 85 (w.heap.size+1) T3.out rfl rfl N3.out.len12 Yi N3.out.one rfl rfl rfl rfl rfl ?_
   intro w4 p4;have T4:=Hh (show Zi w4 (w.heap.size+1) 85 (Ym 0 0 0 zseL nv sd 0 0 0 ⟨#[]⟩ 0 zexL zexL (Λ none 0 0) (Λ none 0 0)).toArray from by first | exact p4.whole | simpa using p4.whole);have R4:=Hh (p4.keeps.whole R3.out (by omega));have N4:=Hh (N3.out.put p4 (by omega));have M4:=Hh (M3.out.put p4 (by omega) qin cin rin);have hz4:=Ξ hz3 p4.keeps.size;have hcell:=M4.out.at_.cell;clear p4)
 |((with_reducible refine Zd 78 ?_);refine Zc 85 _ 85 (w.heap.size+1) _ T4.out Xk (Yn ((show Zs (fun k=>w.heap.size+2≤k) w4 (((⟨0,0,0,zSe,xn.1,sd,0,0,0,⟨#[]⟩,0,zEx,zEx⟩:AH)).dsr 0 .nil 0 .nil) (Ym 0 0 0 zseL nv sd 0 0 0 ⟨#[]⟩ 0 zexL zexL (Λ none 0 0) (Λ none 0 0))from Xc _ _ _ _ _ _ _ _ _ (Wn _ _) (N4.out) (Zv _ _) (Zv _ _) (Yd _ _) (Yd _ _)).len.trans (AH.dsr_len _ _ _ _ _))) rfl rfl rfl ?_)
 |((with_reducible refine Zg 4 78 ?_);refine Za 85 _ _ 85 (w.heap.size) _ (Ym 0 0 0 zseL nv sd 0 0 0 ⟨#[]⟩ 0 zexL zexL (Λ none 0 0) (Λ none 0 0)) R4.out ((show Zs (fun k=>w.heap.size+2≤k) w4 (((⟨0,0,0,zSe,xn.1,sd,0,0,0,⟨#[]⟩,0,zEx,zEx⟩:AH)).dsr 0 .nil 0 .nil) (Ym 0 0 0 zseL nv sd 0 0 0 ⟨#[]⟩ 0 zexL zexL (Λ none 0 0) (Λ none 0 0))from Xc _ _ _ _ _ _ _ _ _ (Wn _ _) (N4.out) (Zv _ _) (Zv _ _) (Yd _ _) (Yd _ _)).len.trans (AH.dsr_len _ _ _ _ _)) (Yn ((show Zs (fun k=>w.heap.size+2≤k) w4 (((⟨0,0,0,zSe,xn.1,sd,0,0,0,⟨#[]⟩,0,zEx,zEx⟩:AH)).dsr 0 .nil 0 .nil) (Ym 0 0 0 zseL nv sd 0 0 0 ⟨#[]⟩ 0 zexL zexL (Λ none 0 0) (Λ none 0 0))from Xc _ _ _ _ _ _ _ _ _ (Wn _ _) (N4.out) (Zv _ _) (Zv _ _) (Yd _ _) (Yd _ _)).len.trans (AH.dsr_len _ _ _ _ _))) (show Zs (fun k=>w.heap.size+2≤k) w4 (((⟨0,0,0,zSe,xn.1,sd,0,0,0,⟨#[]⟩,0,zEx,zEx⟩:AH)).dsr 0 .nil 0 .nil) (Ym 0 0 0 zseL nv sd 0 0 0 ⟨#[]⟩ 0 zexL zexL (Λ none 0 0) (Λ none 0 0))from Xc _ _ _ _ _ _ _ _ _ (Wn _ _) (N4.out) (Zv _ _) (Zv _ _) (Yd _ _) (Yd _ _)).one rfl rfl rfl rfl rfl ?_
   intro w5 p5;have R5:=Hh p5.whole;have T5:=Hh (p5.keeps.whole T4.out (by omega));have N5:=Hh (N4.out.put p5 (by omega));have M5:=Hh (M4.out.put p5 (by omega) qin cin rin);have hz5:=Ξ hz4 p5.keeps.size;have hcell:=M5.out.at_.cell;clear p5))
  exact Ya 4 85 85 w.heap.size _ rfl R5.out Xk (Yn ((show Zs (fun k=>w.heap.size+2≤k) w5 (((⟨0,0,0,zSe,xn.1,sd,0,0,0,⟨#[]⟩,0,zEx,zEx⟩:AH)).dsr 0 .nil 0 .nil) (Ym 0 0 0 zseL nv sd 0 0 0 ⟨#[]⟩ 0 zexL zexL (Λ none 0 0) (Λ none 0 0))from Xc _ _ _ _ _ _ _ _ _ (Wn _ _) (N5.out) (Zv _ _) (Zv _ _) (Yd _ _) (Yd _ _)).len.trans (AH.dsr_len _ _ _ _ _))) rfl rfl ⟨_,rfl,Zs.lower (show Zs (fun k=>w.heap.size+2≤k) w5 (((⟨0,0,0,zSe,xn.1,sd,0,0,0,⟨#[]⟩,0,zEx,zEx⟩:AH)).dsr 0 .nil 0 .nil) (Ym 0 0 0 zseL nv sd 0 0 0 ⟨#[]⟩ 0 zexL zexL (Λ none 0 0) (Λ none 0 0))from Xc _ _ _ _ _ _ _ _ _ (Wn _ _) (N5.out) (Zv _ _) (Zv _ _) (Yd _ _) (Yd _ _)) (by omega),M5.out⟩
theorem kact(n:Nat)(L:List TokV)(st:St)(k:Nat)(k10:k≠10)(k11:k≠11)(hpl0:∀(w:World)(q c r K:Nat),PAt w q c r K L st→Calls Φ 164 #[Ω (some ⟨q,0,none⟩),I J (k:Int)] w (Vq w q c r K L (Xi 5 L n (AH.zero 0 0 0) k st).2 ((Xi 5 L n (AH.zero 0 0 0) k st).1.dsr 0 .nil 0 .nil)))
  (w:World)(q c r K:Nat)(h:PAt w q c r K L st) :
  Calls Φ 142 #[Ω (some ⟨q,0,none⟩),I J k] w (Vq w q c r K L (Ud 5 L (n+1) (AH.zero 0 0 0) k st).st (Ud 5 L (n+1) (AH.zero 0 0 0) k st).ds):=by
 have qin:=h.whole.inside;have cin:=h.cin;have rin:=h.rin;have nb:=Zh w (.cells #[I J 0,I J 0,I J 0,I J 0,I J 0,I J 0,I J 0,Λ none 0 0,I J 0,I J 0,I J 0,I J 0,I J 0,I J 0,I J 0,Λ none 0 0,I J 0,I J 0,I J 0,I J 0,Λ none 0 0,I J 0,I J 0,I J 0,I J 0,Ψ ⟨#[]⟩,I J 0,I J 0,I J 0,I J 0,I J 0,I J 0,I J 0,Λ none 0 0,I J 0,I J 0,I J 0,I J 0,Λ none 0 0,I J 0,I J 0,I J 0,I J 0,I J 0,I J 0,Λ none 0 0,I J 0,I J 0,I J 0,I J 0,Λ none 0 0,Λ none 0 0,Λ none 0 0] 85);have nb2:=Zh (w.alloc (.cells #[I J 0,I J 0,I J 0,I J 0,I J 0,I J 0,I J 0,Λ none 0 0,I J 0,I J 0,I J 0,I J 0,I J 0,I J 0,I J 0,Λ none 0 0,I J 0,I J 0,I J 0,I J 0,Λ none 0 0,I J 0,I J 0,I J 0,I J 0,Ψ ⟨#[]⟩,I J 0,I J 0,I J 0,I J 0,I J 0,I J 0,I J 0,Λ none 0 0,I J 0,I J 0,I J 0,I J 0,Λ none 0 0,I J 0,I J 0,I J 0,I J 0,I J 0,I J 0,Λ none 0 0,I J 0,I J 0,I J 0,I J 0,Λ none 0 0,Λ none 0 0,Λ none 0 0] 85)) (.cells #[I J 0,I J 0,I J 0,I J 0,I J 0,I J 0,I J 0,Λ none 0 0,I J 0,I J 0,I J 0,I J 0,I J 0,I J 0,I J 0,Λ none 0 0,I J 0,I J 0,I J 0,I J 0,Λ none 0 0,I J 0,I J 0,I J 0,I J 0,Ψ ⟨#[]⟩,I J 0,I J 0,I J 0,I J 0,I J 0,I J 0,I J 0,Λ none 0 0,I J 0,I J 0,I J 0,I J 0,Λ none 0 0,I J 0,I J 0,I J 0,I J 0,I J 0,I J 0,Λ none 0 0,I J 0,I J 0,I J 0,I J 0,Λ none 0 0,Λ none 0 0,Λ none 0 0] 85);have M0:=Hh (((Xw.start h).next nb).next nb2);have R0:=Hh (show Zi _ w.heap.size 85 (Vg).toArray from(Zi.made w 85 #[I J 0,I J 0,I J 0,I J 0,I J 0,I J 0,I J 0,Λ none 0 0,I J 0,I J 0,I J 0,I J 0,I J 0,I J 0,I J 0,Λ none 0 0,I J 0,I J 0,I J 0,I J 0,Λ none 0 0,I J 0,I J 0,I J 0,I J 0,Ψ ⟨#[]⟩,I J 0,I J 0,I J 0,I J 0,I J 0,I J 0,I J 0,Λ none 0 0,I J 0,I J 0,I J 0,I J 0,Λ none 0 0,I J 0,I J 0,I J 0,I J 0,I J 0,I J 0,Λ none 0 0,I J 0,I J 0,I J 0,I J 0,Λ none 0 0,Λ none 0 0,Λ none 0 0]).alloc (.cells #[I J 0,I J 0,I J 0,I J 0,I J 0,I J 0,I J 0,Λ none 0 0,I J 0,I J 0,I J 0,I J 0,I J 0,I J 0,I J 0,Λ none 0 0,I J 0,I J 0,I J 0,I J 0,Λ none 0 0,I J 0,I J 0,I J 0,I J 0,Ψ ⟨#[]⟩,I J 0,I J 0,I J 0,I J 0,I J 0,I J 0,I J 0,Λ none 0 0,I J 0,I J 0,I J 0,I J 0,Λ none 0 0,I J 0,I J 0,I J 0,I J 0,I J 0,I J 0,Λ none 0 0,I J 0,I J 0,I J 0,I J 0,Λ none 0 0,Λ none 0 0,Λ none 0 0] 85));have T0:=Hh (show Zi _ (w.heap.size+1) 85 (Vg).toArray from by have e:=Zi.made (w.alloc (.cells #[I J 0,I J 0,I J 0,I J 0,I J 0,I J 0,I J 0,Λ none 0 0,I J 0,I J 0,I J 0,I J 0,I J 0,I J 0,I J 0,Λ none 0 0,I J 0,I J 0,I J 0,I J 0,Λ none 0 0,I J 0,I J 0,I J 0,I J 0,Ψ ⟨#[]⟩,I J 0,I J 0,I J 0,I J 0,I J 0,I J 0,I J 0,Λ none 0 0,I J 0,I J 0,I J 0,I J 0,Λ none 0 0,I J 0,I J 0,I J 0,I J 0,I J 0,I J 0,Λ none 0 0,I J 0,I J 0,I J 0,I J 0,Λ none 0 0,Λ none 0 0,Λ none 0 0] 85)) 85 #[I J 0,I J 0,I J 0,I J 0,I J 0,I J 0,I J 0,Λ none 0 0,I J 0,I J 0,I J 0,I J 0,I J 0,I J 0,I J 0,Λ none 0 0,I J 0,I J 0,I J 0,I J 0,Λ none 0 0,I J 0,I J 0,I J 0,I J 0,Ψ ⟨#[]⟩,I J 0,I J 0,I J 0,I J 0,I J 0,I J 0,I J 0,Λ none 0 0,I J 0,I J 0,I J 0,I J 0,Λ none 0 0,I J 0,I J 0,I J 0,I J 0,I J 0,I J 0,Λ none 0 0,I J 0,I J 0,I J 0,I J 0,Λ none 0 0,Λ none 0 0,Λ none 0 0];rw[World.size_alloc]at e;exact e);clear nb nb2;have hcell:=M0.out.at_.cell;have hst:Ud 5 L (n+1) (AH.zero 0 0 0) k st=⟨(Xi 5 L n (AH.zero 0 0 0) k st).1,.nil,.nil,Zz L Xg (Xi 5 L n (AH.zero 0 0 0) k st).2⟩:=by rw[Ud,if_neg k10,if_neg k11]
 rw[hst];clear hst;have hpl:=fun w h=>hpl0 w q c r K h
 clear hpl0;show Calls _ _ _ _ (Vq w q c r K L (Zz L Xg (Xi 5 L n (AH.zero 0 0 0) k st).2) ((Xi 5 L n (AH.zero 0 0 0) k st).1.dsr 0 .nil 0 .nil));generalize Xi 5 L n (AH.zero 0 0 0) k st=xp at *;have q10:((k:Int) == 10)=false:=by rw[beq_eq_false_iff_ne];omega
 have q11:((k:Int) == 11)=false:=by rw[beq_eq_false_iff_ne];omega
 clear h k10 k11;go_enter Tryz.func142,Tryz.ntmps142;go_wp2_with(first
 |(go_at_call 164;refine(hpl _ M0.out.at_).mono ?_;rintro e w1 ⟨av,rfl,d1,m1⟩
   have R1:=Hh (m1.keeps.whole R0.out (by omega));have T1:=Hh (m1.keeps.whole T0.out (by omega));have M1:=Hh (M0.out.then m1);have hz1:w.heap.size+2≤w1.heap.size:=by have:=m1.keeps.size;(try simp at this);omega
   have hcell:=M1.out.at_.cell;have A1:=Hh (d1.lower (show w.heap.size+2≤_ by first | omega | (simp;done) | (simp;omega)));have AL:=Hh d1.len;clear m1 d1)
 |((with_reducible refine Zg 5 9 ?_);refine Za 85 _ _ 85 (w.heap.size+1) _ (av) T1.out (A1.out.len.trans (AH.dsr_len _ _ _ _ _)) (Yn (A1.out.len.trans (AH.dsr_len _ _ _ _ _))) A1.out.one rfl rfl rfl rfl rfl ?_
   intro w2 p2;have T2:=Hh p2.whole;have R2:=Hh (p2.keeps.whole R1.out (by omega));have A2:=Hh (A1.out.put p2 (by omega));have M2:=Hh (M1.out.put p2 (by omega) qin cin rin);have hz2:=Ξ hz1 p2.keeps.size;have hcell:=M2.out.at_.cell;clear p2)
 |(go_at_call 82;refine(xwant _ q c r K L _ Xg M2.out.at_).mono ?_;rintro e w3 ⟨rfl,m3⟩
   have R3:=Hh (m3.keeps.whole R2.out (by omega));have T3:=Hh (m3.keeps.whole T2.out (by omega));have A3:=Hh (A2.out.move m3 (by omega) (by omega));have M3:=Hh (M2.out.then m3);have hz3:=Ξ hz2 m3.keeps.size;have hcell:=M3.out.at_.cell;clear m3)
 |((with_reducible refine Zd 36 ?_);refine Zc 85 _ 85 (w.heap.size+1) _ T3.out Xk (Yn (A3.out.len.trans (AH.dsr_len _ _ _ _ _))) rfl rfl rfl ?_)
 |((with_reducible refine Zg 4 36 ?_);refine Za 85 _ _ 85 (w.heap.size) _ (av) R3.out (A3.out.len.trans (AH.dsr_len _ _ _ _ _)) (Yn (A3.out.len.trans (AH.dsr_len _ _ _ _ _))) A3.out.one rfl rfl rfl rfl rfl ?_
   intro w4 p4;have R4:=Hh p4.whole;have T4:=Hh (p4.keeps.whole T3.out (by omega));have A4:=Hh (A3.out.put p4 (by omega));have M4:=Hh (M3.out.put p4 (by omega) qin cin rin);have hz4:=Ξ hz3 p4.keeps.size;have hcell:=M4.out.at_.cell;clear p4))
 exact Ya 4 85 85 w.heap.size _ rfl R4.out Xk (Yn (A4.out.len.trans (AH.dsr_len _ _ _ _ _))) rfl rfl ⟨_,rfl,Zs.lower A4.out (by omega),M4.out⟩
theorem kacts(n:Nat)(L:List TokV)(st:St)(P:Nat→St→Prop)(hP:P n st)(hnx:∀ m s,P (m+1) s→¬ Zk L Wj s=0→(∀(w:World)(q c r K:Nat),PAt w q c r K L (Ye L Wj s)→Calls Φ 142 #[Ω (some ⟨q,0,none⟩),I J (Zk L Wj s:Int)] w (Vq w q c r K L (Ud 5 L m (AH.zero 0 0 0) (Zk L Wj s) (Ye L Wj s)).st (Ud 5 L m (AH.zero 0 0 0) (Zk L Wj s) (Ye L Wj s)).ds))∧P m (Ud 5 L m (AH.zero (Zk L Wj s) (s.tok L).line (s.tok L).col) (Zk L Wj s) (Ye L Wj s)).st)
  (hn:8*Zx L st+8≤n)(hLn:Zx L st≤68719476736)(w:World)(q c r K:Nat)(h:PAt w q c r K L st) :
  Calls Φ 109 #[Ω (some ⟨q,0,none⟩)] w (Zjw w q c r K L (Xm 5 L n st).2 (Xm 5 L n st).1.len (Xm 5 L n st).1.ds):=by
 have H0:=Hh (show RowD w q c r K L 85 53 st 0 .nil [] (Λ none 0 0) w from⟨⟨Xw.start h,World.ownsRow_nil _ _ _ _,h.whole.inside,h.cin,h.rin⟩,rfl⟩);have qin:=h.whole.inside;have cin:=h.cin;have HN:=Hh (ζ hn hLn);have HP0:=Hh hP;have HNX:=Hh hnx;clear hn h hLn hP hnx;go_enter Tryz.func109,Tryz.ntmps109;go_wp2
 go_loopw [3] (fun v wr=>∃(m:Nat)(acc:Acs)(xs:List Value)(s:St),RowD w q c r K L 85 53 s acc.len acc.ds xs v wr∧8*Zx L s+8≤m∧m≤n∧acc.len+Zx L s≤Zx L st∧Xm 5 L n st=(acc.app (Xm 5 L m s).1,(Xm 5 L m s).2)∧P m s) (fun _ wr=>remW q c wr)
 case atStart=>exact⟨n,.nil,[],st,H0.out,HN.out.1,Θ _,by simp[Acs.len],rfl,HP0.out⟩
 case round=>
  obtain⟨m,acc,xs,s,hR,hm,hmn,hacc,heq,hps⟩:=hrel;obtain⟨m,rfl⟩:∃ m',m=m'+1:=⟨m - 1,by omega⟩
  obtain⟨A,cp,rfl,_,_,_⟩:=Yx hR.row.row;have hcell:=hR.row.mv.at_.cell;have hrem:=hR.row.mv.at_.rem;have hpk:=xPeek wr q c r K L s hR.row.mv.at_;have hle:=Zen L Wj s;have hz0:=hR.row.mv.keeps.size;have hfr:=Vt (L:=L) (ws:=Wj) (st:=s);have hfn:=Uh L (ws:=Wj) (st:=s);have hst:=acts_step 5 L m s;have hsp:=Znc 5 L m s;have hfi:∀ W G,G=W.heap.size→PAt W q c r K L s→Calls Φ 108 #[Ω (some ⟨q,0,none⟩),Λ (some ⟨G,0,none⟩) 15 15] (W.alloc (.cells #[Ψ ⟨#[112,111,119,101,114]⟩,Ψ ⟨#[115,101,116]⟩,Ψ ⟨#[100,101,115,116,114,111,121]⟩,Ψ ⟨#[109,111,118,101]⟩,Ψ ⟨#[114,101,116,117,114,110]⟩,Ψ ⟨#[115,112,97,119,110]⟩,Ψ ⟨#[100,114,97,119]⟩,Ψ ⟨#[100,105,115,99,97,114,100]⟩,Ψ ⟨#[101,110,101,114,103,121]⟩,Ψ ⟨#[105,102]⟩,Ψ ⟨#[101,97,99,104]⟩,Ψ ⟨#[97,117,114,97]⟩,Ψ ⟨#[100,111,117,98,108,101]⟩,Ψ ⟨#[115,104,105,101,108,100]⟩,Ψ ⟨#[98,97,114]⟩] 9)) fun e w'=>e=η (I J (Zk L Wj s:Int))∧Xw W w' q c r K L (Ye L Wj s):=fun W G h2 h=>xfindB W q c r K G L s Wj 15 15 _ rfl h2 h rfl (by decide)
  have hq:=HNX.out m s hps;clear hps;generalize s.tok L=tv at *;unfold Wz at hpk;generalize Zk L Wj s=k at *;generalize Ye L Wj s=s1 at *;have HR:=Hh hR;have HQ:=Hh heq;have hle15:k≤15:=hle;clear hR heq hle;by_cases hk0:k=0
  · have HS:=Hh (ζ (hsp hk0) (hfn hk0))
    subst hk0;rw[show((0:Nat):Int)=0 from rfl]at hfi;clear hst hsp hfn hfr hm hmn hacc hrem hq;go_wp2_with(first
 |(go_at_call 55;refine hpk.mono ?_;rintro e w1 ⟨rfl,b1⟩
   have nb:=Zh w1 (.cells #[I J tv.k,Ψ tv.t,I J tv.n,I J (tv.line:Int),I J (tv.col:Int)] 54);have M1:=Hh ((HR.out.row.mv.next b1).next nb);have F1:=Hh (((Zag.start q c wr).next b1).next nb);clear b1 nb)
 |(go_at_call 108;refine(hfi _ _ ?_ M1.out.at_).mono ?_;simp;rintro e w2 ⟨rfl,m2⟩
   have M2:=Hh (M1.out.then m2)
   have F2:=Hh (F1.out.move m2);clear m2))
    go_ret;obtain⟨e1,e2⟩:=HS.out;have R:=HR.out.round F2.out M2.out;rw[e2]at R;rw[HQ.out,e1];dsimp only;rw[Acs.app_nil];exact⟨_,rfl,Zs.rowOf R.row.row (fun k hk=>hk) (R.deep.mono fun k _ hk=>hk.1),R.row.mv⟩
  · have hst:=hst hk0
    have hfr:=hfr hk0;have hac:∀ w,PAt w q c r K L s1→Calls Φ 142 #[Ω (some ⟨q,0,none⟩),I J (k:Int)] w (Vq w q c r K L (Ud 5 L m (AH.zero 0 0 0) k s1).st (Ud 5 L m (AH.zero 0 0 0) k s1).ds):=fun w h=>(hq hk0).1 w q c r K h
    have hq2:=Hh (hq hk0).2;clear hq;obtain⟨k0,l0,c0,tl,ha1,ha2⟩:=act_ds 5 L m (k:Int) (tv.line:Int) (tv.col:Int) k s1;obtain⟨_,_,_,ha3⟩:=act_head 5 L m (k:Int) (tv.line:Int) (tv.col:Int) k s1;have hrk:=rem_act L 5 m (AH.zero 0 0 0) k s1;have hlen:(Ds.int k0 (.int l0 (.int c0 tl))).len=53:=by rw[←ha1];exact AH.dsr_len _ _ _ _ _
    have HLn:=Hh hlen;rw[ha1]at hac;clear hlen;rw[←ha3]at hac hrk;generalize Ud 5 L m (AH.zero (k:Int) (tv.line:Int) (tv.col:Int)) k s1=x at *;have q0:((k:Int) == 0)=false:=by rw[beq_eq_false_iff_ne];omega
    have HT:=Hh (ζ hst (ζ hm (ζ hmn (ζ hacc (ζ hrem (ζ hfr (ζ hrk ha2)))))));clear hst hsp hfn hm hmn hacc hrem hfr hrk ha1 ha2 ha3 hk0;go_wp2_with(first
 |(go_at_call 55;refine hpk.mono ?_;rintro e w1 ⟨rfl,b1⟩
   have nb:=Zh w1 (.cells #[I J tv.k,Ψ tv.t,I J tv.n,I J (tv.line:Int),I J (tv.col:Int)] 54);have M1:=Hh ((HR.out.row.mv.next b1).next nb);have F1:=Hh (((Zag.start q c wr).next b1).next nb);have K1:=Hh (Zi.made w1 54 #[I J tv.k,Ψ tv.t,I J tv.n,I J (tv.line:Int),I J (tv.col:Int)]);have hz1:wr.heap.size≤w1.heap.size:=b1.size;clear b1 nb)
 |(go_at_call 108;refine(hfi _ _ ?_ M1.out.at_).mono ?_;simp;rintro e w2 ⟨rfl,m2⟩
   have M2:=Hh (M1.out.then m2);have F2:=Hh (F1.out.move m2);have K2:=Hh (m2.keeps.whole K1.out (by omega));have hz2:w1.heap.size+1≤w2.heap.size:=by have:=m2.keeps.size;simp at this;omega
   clear m2)
 |(go_at_call 142;refine(hac _ M2.out.at_).mono ?_;rintro e w3 ⟨vs,rfl,d3,m3⟩
   have O3:=Hh (d3.len.trans HLn.out);have N3:=Hh d3.one;obtain⟨u1,rfl,u2,rfl,av,rfl,dt⟩:=d3;have nb:=Zh w3 (.cells #[I J 0,I J 0,I J 0,I J 0,I J 0,I J 0,I J 0,Λ none 0 0,I J 0,I J 0,I J 0,I J 0,I J 0,I J 0,I J 0,Λ none 0 0,I J 0,I J 0,I J 0,I J 0,Λ none 0 0,I J 0,I J 0,I J 0,I J 0,Ψ ⟨#[]⟩,I J 0,I J 0,I J 0,I J 0,I J 0,I J 0,I J 0,Λ none 0 0,I J 0,I J 0,I J 0,I J 0,Λ none 0 0,I J 0,I J 0,I J 0,I J 0,I J 0,I J 0,Λ none 0 0,I J 0,I J 0,I J 0,I J 0,Λ none 0 0,Λ none 0 0,Λ none 0 0] 85);have M3:=Hh ((M2.out.then m3).next nb);have F3:=Hh ((F2.out.move m3).next nb);have K3:=Hh ((m3.keeps.whole K2.out (by omega)).below nb (by have:=m3.keeps.size;omega));have hz3:w2.heap.size≤w3.heap.size:=m3.keeps.size;have T3:=Hh (show Zi (w3.alloc (.cells #[I J 0,I J 0,I J 0,I J 0,I J 0,I J 0,I J 0,Λ none 0 0,I J 0,I J 0,I J 0,I J 0,I J 0,I J 0,I J 0,Λ none 0 0,I J 0,I J 0,I J 0,I J 0,Λ none 0 0,I J 0,I J 0,I J 0,I J 0,Ψ ⟨#[]⟩,I J 0,I J 0,I J 0,I J 0,I J 0,I J 0,I J 0,Λ none 0 0,I J 0,I J 0,I J 0,I J 0,Λ none 0 0,I J 0,I J 0,I J 0,I J 0,I J 0,I J 0,Λ none 0 0,I J 0,I J 0,I J 0,I J 0,Λ none 0 0,Λ none 0 0,Λ none 0 0] 85)) w3.heap.size 85 Vg.toArray from Zi.made w3 85 #[I J 0,I J 0,I J 0,I J 0,I J 0,I J 0,I J 0,Λ none 0 0,I J 0,I J 0,I J 0,I J 0,I J 0,I J 0,I J 0,Λ none 0 0,I J 0,I J 0,I J 0,I J 0,Λ none 0 0,I J 0,I J 0,I J 0,I J 0,Ψ ⟨#[]⟩,I J 0,I J 0,I J 0,I J 0,I J 0,I J 0,I J 0,Λ none 0 0,I J 0,I J 0,I J 0,I J 0,Λ none 0 0,I J 0,I J 0,I J 0,I J 0,I J 0,I J 0,Λ none 0 0,I J 0,I J 0,I J 0,I J 0,Λ none 0 0,Λ none 0 0,Λ none 0 0]);have D3:=Hh dt;clear m3 nb dt)
 |((with_reducible refine Zg 6 20 ?_);refine Za 85 _ _ 85 w3.heap.size Vg (I J k0::I J l0::I J c0::av) T3.out O3.out (Yn O3.out) N3.out rfl rfl rfl rfl rfl ?_
   intro w4 p4;have M4:=Hh (M3.out.put p4 (by omega) qin cin HR.out.row.rin);have F4:=Hh (F3.out.put p4 (by omega));have K4:=Hh (p4.keeps.whole K3.out (by omega));have D4:=Hh (D3.out.keeps ((Zy.of_below (S:=fun k=>k=w3.heap.size) (Zh w3 _)).trans p4.keeps) (M:=fun k=>w2.heap.size≤k∧k≠w3.heap.size) fun k hk hn=>⟨by omega,hn,by omega⟩);have T4:=Hh p4.whole;have y0:w4.cell? ⟨w3.heap.size,0,none⟩=some (I J k0):=T4.out.read 0;have y1:w4.cell? ⟨w3.heap.size,1,none⟩=some (I J l0):=T4.out.read 1;have y2:w4.cell? ⟨w3.heap.size,2,none⟩=some (I J c0):=T4.out.read 2;have z0:=T4.out.thawed 0;have z1:=T4.out.thawed 1;have z2:=T4.out.thawed 2;have y3:w4.cell? ⟨w1.heap.size,3,none⟩=some (I J (tv.line:Int)):=K4.out.read 3;have y4:w4.cell? ⟨w1.heap.size,4,none⟩=some (I J (tv.col:Int)):=K4.out.read 4;have hne:¬(w3.heap.size=w1.heap.size):=by omega
   clear p4))
    go_region
    have p5:=T4.out.set3L (I J (k:Int)) (I J (tv.line:Int)) (I J (tv.col:Int));generalize h5:((w4.setCell ⟨w3.heap.size,0,none⟩ (I J (k:Int))).setCell ⟨w3.heap.size,1,none⟩ (I J (tv.line:Int))).setCell ⟨w3.heap.size,2,none⟩ (I J (tv.col:Int))=w5 at *;have M5:=Hh (M4.out.put p5 (by omega) qin cin HR.out.row.rin).drew;have F5:=Hh ((F4.out.put p5 (by omega)).drew);have D5:=Hh (D4.out.keeps (p5.keeps.drew) (M:=fun k=>w2.heap.size≤k) fun k hk hn=>⟨by omega,hn.1⟩);have T5:=Hh p5.whole.drew;have D6:=Hh (show Zs (fun k=>w2.heap.size≤k) w5.drew x.ds (I J (k:Int)::I J (tv.line:Int)::I J (tv.col:Int)::av)from by rw[HT.out.2.2.2.2.2.2.2];exact⟨_,rfl,_,rfl,_,rfl,D5.out⟩);have L5:(I J (k:Int)::I J (tv.line:Int)::I J (tv.col:Int)::av).length=53:=by have:=O3.out;simpa using this
    have O5:=Hh L5;have hz5:w3.heap.size+1≤w5.drew.heap.size:=T5.out.inside;clear h5 p5 L5;generalize w5.drew=w6 at *;go_wp2_with(first
 |((with_reducible refine Zd 30 ?_);refine Zc 85 _ 85 w3.heap.size _ T5.out Xk (Yn O5.out) rfl rfl rfl ?_)
 |((with_reducible refine Zd 31 ?_);refine Uz 39 85 (.tmp 30) 31 53 576 zact (I J (k:Int)::I J (tv.line:Int)::I J (tv.col:Int)::av) Zly O5.out (by decide) (by decide) Zlh rfl rfl rfl rfl ?_
   have nb:=Zh w6 (.cells (I J (k:Int)::I J (tv.line:Int)::I J (tv.col:Int)::av).toArray 85);have R6:=Hh (HR.out.round (F5.out.next nb) (M5.out.next nb));have W6:=Hh (Zi.made w6 85 (I J (k:Int)::I J (tv.line:Int)::I J (tv.col:Int)::av).toArray);have D7:=Hh (D6.out.below nb);clear nb)
 |(at_builtin;refine Wf (.tmp 29) (.tmp 31) 39 85 53 576 _ Zlh Zly rfl (by decide) (by decide) w.heap.size (Λ A acc.len cp) acc.len xs (I J (k:Int)::I J (tv.line:Int)::I J (tv.col:Int)::av) R6.out.row.row w6.heap.size W6.out O5.out D7.out.one (by have:=HT.out.2.2.2.1;have:=HN.out.2;omega) (by simp;omega) rfl rfl rfl rfl ?_
   intro v9 w9 o9 g9 at9
   have R9:=Hh (R6.out.push o9 g9 at9 (D7.out.mono fun k _ hk=>⟨by omega,fun c=>by have:=HR.out.row.row.lt _ c;omega⟩));clear o9 g9 at9))
    go_roundw
    case rel=>
     obtain⟨h1,h2,h3,h4,h5,h6,h7,h8⟩:=HT.out;refine⟨m,acc.app (.cons x.h x.thn x.els .nil),xs++(I J (k:Int)::I J (tv.line:Int)::I J (tv.col:Int)::av),x.st,?_,?_,?_,?_,?_,hq2.out⟩
     ·have R:=R9.out
      have e1:(acc.app (.cons x.h x.thn x.els .nil)).ds=acc.ds.app x.ds:=by rw[Acs.ds_app];congr 1;exact Ds.app_nil _
      have e2:(acc.app (.cons x.h x.thn x.els .nil)).len=acc.len+1:=by rw[Acs.len_app];rfl
      rw[e1,e2];exact R
     ·omega
     ·omega
     ·rw[Acs.len_app];simp only[Acs.len];omega
     ·rw[HQ.out,h1,Acs.app_assoc];rfl
    case measure=>
     obtain⟨h1,h2,h3,h4,h5,h6,h7,h8⟩:=HT.out;have:=R9.out.row.mv.at_.rem;rw[this,h5];omega
theorem krules(n:Nat)(L:List TokV)(st:St)(P:Nat→St→Prop)(hP:P n (Zz L Yu st))(hnx:∀ m s,P (m+1) s→¬ Zk L Xf s=0→¬ Zk L Xf s=5∧(∀(w:World)(q c r K:Nat),PAt w q c r K L (Zz L Yu (Zbc L (Zk L Xf s) (Ye L Xf s)))→Calls Φ 109 #[Ω (some ⟨q,0,none⟩)] w (Zjw w q c r K L (Xm 5 L m (Zz L Yu (Zbc L (Zk L Xf s) (Ye L Xf s)))).2 (Xm 5 L m (Zz L Yu (Zbc L (Zk L Xf s) (Ye L Xf s)))).1.len (Xm 5 L m (Zz L Yu (Zbc L (Zk L Xf s) (Ye L Xf s)))).1.ds))∧P m (Zz L Xl (Xm 5 L m (Zz L Yu (Zbc L (Zk L Xf s) (Ye L Xf s)))).2))
  (hn:8*Zx L st+9≤n)(hLn:Zx L st≤68719476736)(w:World)(q c r K:Nat)(h:PAt w q c r K L st) :
  Calls Φ 86 #[Ω (some ⟨q,0,none⟩)] w (Zjw w q c r K L (Zbn 5 L n st).2 (Zbn 5 L n st).1.length (Un (Zbn 5 L n st).1)):=by
 have qin:=h.whole.inside;have cin:=h.cin;have rin:=h.rin;have hrw:=Xx L Yu st;have hw0:Calls Φ 82 #[Ω (some ⟨q,0,none⟩),Ψ ⟨#[123]⟩] w (Ue w q c r K L (Zz L Yu st) (.tuple #[])):=xwant w q c r K L st Yu h;unfold Zbn;generalize Zz L Yu st=st1 at *;have HN:=Hh (ζ (show 8*Zx L st1+9≤n by omega) (show Zx L st1≤68719476736 by omega));have HP0:=Hh hP;have HNX:=Hh hnx;clear hn h hLn hrw hP hnx;go_enter Tryz.func86,Tryz.ntmps86
 go_wp2_with(go_at_call 82;refine hw0.mono ?_;rintro e w0 ⟨rfl,m0⟩
             have H0:=Hh (show RowD w q c r K L 41 5 st1 0 .nil [] (Λ none 0 0) w0 from⟨⟨m0,World.ownsRow_nil _ _ _ _,qin,cin,rin⟩,rfl⟩);clear m0)
 go_loopw [3] (fun v wr=>∃(m:Nat)(acc:List Ru)(xs:List Value)(s:St),RowD w q c r K L 41 5 s acc.length (Un acc) xs v wr∧8*Zx L s+9≤m∧m≤n∧acc.length+Zx L s≤Zx L st1∧Wi 5 L n st1=(acc++(Wi 5 L m s).1,(Wi 5 L m s).2)∧P m s) (fun _ wr=>remW q c wr)
 case atStart=>exact⟨n,[],[],st1,H0.out,HN.out.1,Θ _,by simp,by simp,HP0.out⟩
 case round=>
  obtain⟨m,acc,xs,s,hR,hm,hmn,hacc,heq,hps⟩:=hrel;obtain⟨m,rfl⟩:∃ m',m=m'+1:=⟨m - 1,by omega⟩
  obtain⟨A,cp,rfl,_,_,_⟩:=Yx hR.row.row;have hcell:=hR.row.mv.at_.cell;have hrem:=hR.row.mv.at_.rem;have hpk:=xPeek wr q c r K L s hR.row.mv.at_;have hz0:=hR.row.mv.keeps.size;have hfr:=Vt (L:=L) (ws:=Xf) (st:=s);have hfn:=Uh L (ws:=Xf) (st:=s);have hst:=rules_step 5 L m s;have hsp:=Zko 5 L m s;have hfi:∀ W G,G=W.heap.size→PAt W q c r K L s→Calls Φ 108 #[Ω (some ⟨q,0,none⟩),Λ (some ⟨G,0,none⟩) 6 6] (W.alloc (.cells #[Ψ ⟨#[114,101,118,101,97,108]⟩,Ψ ⟨#[100,101,97,116,104]⟩,Ψ ⟨#[109,111,118,101,100]⟩,Ψ ⟨#[101,110,100]⟩,Ψ ⟨#[97,108,119,97,121,115]⟩,Ψ ⟨#[101,110,116,101,114]⟩] 9)) fun e w'=>e=η (I J (Zk L Xf s:Int))∧Xw W w' q c r K L (Ye L Xf s):=fun W G h2 h=>xfindB W q c r K G L s Xf 6 6 _ rfl h2 h rfl (by decide)
  have hq:=HNX.out m s hps;clear hps;generalize s.tok L=tv at *;unfold Wz at hpk;generalize Zk L Xf s=k at *;generalize Ye L Xf s=s1 at *;have HR:=Hh hR;have HQ:=Hh heq;clear hR heq;by_cases hk0:k=0
  · have HS:=Hh (ζ (hsp hk0) (hfn hk0))
    subst hk0;rw[show((0:Nat):Int)=0 from rfl]at hfi;have hw1:∀ w,PAt w q c r K L s1→Calls Φ 82 #[Ω (some ⟨q,0,none⟩),Ψ ⟨#[125]⟩] w (Ue w q c r K L (Zz L Xl s1) (.tuple #[])):=fun w h=>xwant w q c r K L s1 Xl h
    clear hst hsp hfn hfr hm hmn hacc hrem hq;go_wp2_with(first
 |(go_at_call 55;refine hpk.mono ?_;rintro e w1 ⟨rfl,b1⟩
   have nb:=Zh w1 (.cells #[I J tv.k,Ψ tv.t,I J tv.n,I J (tv.line:Int),I J (tv.col:Int)] 54);have M1:=Hh ((HR.out.row.mv.next b1).next nb);have F1:=Hh (((Zag.start q c wr).next b1).next nb);have K1:=Hh (Zi.made w1 54 #[I J tv.k,Ψ tv.t,I J tv.n,I J (tv.line:Int),I J (tv.col:Int)]);have hz1:wr.heap.size≤w1.heap.size:=b1.size;clear b1 nb)
 |(go_at_call 108;refine(hfi _ _ ?_ M1.out.at_).mono ?_;simp;rintro e w2 ⟨rfl,m2⟩
   have M2:=Hh (M1.out.then m2);have F2:=Hh (F1.out.move m2);clear m2)
 |(go_at_call 82;refine(hw1 _ M2.out.at_).mono ?_;rintro e w3 ⟨rfl,m3⟩
   have M3:=Hh (M2.out.then m3)
   have F3:=Hh (F2.out.move m3);clear m3))
    go_ret;obtain⟨e1,e2⟩:=HS.out;have R:=HR.out.round F3.out M3.out;rw[e2]at R;rw[HQ.out,e1];dsimp only;rw[List.append_nil];exact⟨_,rfl,Zs.rowOf R.row.row (fun k hk=>hk) (R.deep.mono fun k _ hk=>hk.1),R.row.mv⟩
  · have hst:=hst hk0
    obtain⟨hq5,hqa,hqp⟩:=hq hk0;have HQP:=Hh hqp;clear hq hqp;have hfr:=hfr hk0;have q0:((k:Int) == 0)=false:=by rw[beq_eq_false_iff_ne];omega
    have hrs:=Zok L k s1;have hra:=Xx L Yu (Zbc L k s1);have hw1:∀ w,PAt w q c r K L (Zbc L k s1)→Calls Φ 82 #[Ω (some ⟨q,0,none⟩),Ψ ⟨#[123]⟩] w (Ue w q c r K L (Zz L Yu (Zbc L k s1)) (.tuple #[])):=fun w h=>xwant w q c r K L _ Yu h
    generalize Zz L Yu (Zbc L k s1)=s3 at *;have hac:∀ w,PAt w q c r K L s3→Calls Φ 109 #[Ω (some ⟨q,0,none⟩)] w (Zjw w q c r K L (Xm 5 L m s3).2 (Xm 5 L m s3).1.len (Xm 5 L m s3).1.ds):=fun w h=>hqa w q c r K h
    clear hqa;have hrx:=Zlo L 5 m s3;generalize Xm 5 L m s3=xa at *;have hru:=Xx L Xl xa.2;have hw2:∀ w,PAt w q c r K L xa.2→Calls Φ 82 #[Ω (some ⟨q,0,none⟩),Ψ ⟨#[125]⟩] w (Ue w q c r K L (Zz L Xl xa.2) (.tuple #[])):=fun w h=>xwant w q c r K L _ Xl h
    generalize Zz L Xl xa.2=s4 at *;have hle4:Zx L s4≤Zx L s1:=by omega
    have h5:¬ k=5:=hq5;have q5:((k:Int) == 5)=false:=by rw[beq_eq_false_iff_ne];omega
    have e1:Zbc L k s1=s1:=if_neg h5;have e2:strN L k s1=0:=if_neg h5;rw[e1]at hw1;rw[e2]at hst;have HT:=Hh (ζ hst (ζ hm (ζ hmn (ζ hacc (ζ hrem (ζ hfr hle4))))));clear hst hsp hfn hm hmn hacc hrem hfr hrs hra hrx hru e1 e2 h5 hk0 hle4;go_wp2_with(first
 |(go_at_call 55;refine hpk.mono ?_;rintro e w1 ⟨rfl,b1⟩
   have nb:=Zh w1 (.cells #[I J tv.k,Ψ tv.t,I J tv.n,I J (tv.line:Int),I J (tv.col:Int)] 54);have M1:=Hh ((HR.out.row.mv.next b1).next nb);have F1:=Hh (((Zag.start q c wr).next b1).next nb);have K1:=Hh (Zi.made w1 54 #[I J tv.k,Ψ tv.t,I J tv.n,I J (tv.line:Int),I J (tv.col:Int)]);have hz1:wr.heap.size≤w1.heap.size:=b1.size;clear b1 nb)
 |(go_at_call 108;refine(hfi _ _ ?_ M1.out.at_).mono ?_;simp;rintro e w2 ⟨rfl,m2⟩
   have K2:=m2.keeps.whole K1.out (by omega);have y3:w2.cell? ⟨w1.heap.size,3,none⟩=some (I J (tv.line:Int)):=K2.read 3;have y4:w2.cell? ⟨w1.heap.size,4,none⟩=some (I J (tv.col:Int)):=K2.read 4;have hz2:w1.heap.size+1≤w2.heap.size:=by have:=m2.keeps.size;simp at this;omega
   have nb:=Zh w2 (.cells #[I J (k:Int),I J 0,I J (tv.line:Int),I J (tv.col:Int),Λ none 0 0] 41);have M2:=Hh ((M1.out.then m2).next nb);have hcell:=M2.out.at_.cell;have F2:=Hh ((F1.out.move m2).next nb);have T2:=Hh (show Zi _ _ _ ([I J (k:Int),I J 0,I J (tv.line:Int),I J (tv.col:Int),Λ none 0 0]:List Value).toArray from Zi.made w2 41 #[I J (k:Int),I J 0,I J (tv.line:Int),I J (tv.col:Int),Λ none 0 0]);clear m2 nb K2)
 |(go_at_call 82;(with_reducible refine(hw1 _ ?_).mono ?_);exact M2.out.at_;rintro e w3 ⟨rfl,m3⟩
   have T3:=Hh (m3.keeps.whole T2.out (by omega));have F3:=Hh (F2.out.move m3);have M3:=Hh (M2.out.then m3);have hz3:w2.heap.size+1≤w3.heap.size:=by have:=m3.keeps.size;(try simp at this);omega
   have hcell:=M3.out.at_.cell;clear m3)
 |(go_at_call 109;refine(hac _ M3.out.at_).mono ?_;rintro e w4 ⟨av,rfl,d4,m4⟩
   have T4:=Hh (m4.keeps.whole T3.out (by omega));have F4:=Hh (F3.out.move m4);have M4:=Hh (M3.out.then m4);have hz4:=Ξ hz3 m4.keeps.size;have hcell:=M4.out.at_.cell;have A4:=Hh (d4.lower (show w2.heap.size+1≤_ by first | omega | (simp;done) | (simp;omega)));obtain⟨Aa,Ac,rfl⟩:=A4.out.slice;clear m4 d4)
 |((with_reducible refine Zg 42 41 ?_);refine Zp 39 _ _ 41 (w2.heap.size) 4 [I J (k:Int),I J 0,I J (tv.line:Int),I J (tv.col:Int)] (Λ none 0 0) (Λ Aa xa.1.len Ac) ([]) (show Zi _ _ _ _ from T4.out) rfl Zdu rfl rfl rfl rfl rfl rfl ?_
   intro w5 p5;have T5:=Hh (show Zi w5 (w2.heap.size) 41 ([I J (k:Int),I J 0,I J (tv.line:Int),I J (tv.col:Int),Λ Aa xa.1.len Ac]).toArray from by first | exact p5.whole | simpa using p5.whole);have F5:=Hh (F4.out.put p5 (by omega));have A5:=Hh (A4.out.put p5 (by omega));have M5:=Hh (M4.out.put p5 (by omega) qin cin rin);have hz5:=Ξ hz4 p5.keeps.size;have hcell:=M5.out.at_.cell;clear p5)
 |(go_at_call 82;(with_reducible refine(hw2 _ ?_).mono ?_);exact M5.out.at_;rintro e w6 ⟨rfl,m6⟩
   have T6:=Hh (m6.keeps.whole T5.out (by omega));have F6:=Hh (F5.out.move m6);have A6:=Hh (A5.out.move m6 (by omega) (by omega));have M6:=Hh (M5.out.then m6);have hz6:=Ξ hz5 m6.keeps.size;have hcell:=M6.out.at_.cell;clear m6)
 |((with_reducible refine Zd 46 ?_);refine Zc 41 _ 41 (w2.heap.size) _ T6.out row_ru Zlj rfl rfl rfl ?_)
 |(at_builtin;refine Wf (.tmp 45) (.tmp 47) 34 41 5 56 _ Zlg Zlx rfl (by decide) (by decide) w.heap.size (Λ A acc.length cp) acc.length xs [I J (k:Int),I J 0,I J (tv.line:Int),I J (tv.col:Int),Λ Aa xa.1.len Ac] (HR.out.round (F6.out.next (Zh _ (.cells [I J (k:Int),I J 0,I J (tv.line:Int),I J (tv.col:Int),Λ Aa xa.1.len Ac].toArray 41))) (M6.out.next (Zh _ (.cells [I J (k:Int),I J 0,I J (tv.line:Int),I J (tv.col:Int),Λ Aa xa.1.len Ac].toArray 41)))).row.row w6.heap.size (Zi.made _ _ _) rfl (by simp[Γ]) (by have:=HT.out.2.2.2.1;have:=HN.out.2;omega) (by simp;omega) rfl rfl rfl rfl ?_
   intro v9 w9 o9 g9 at9
   have R9:=Hh ((HR.out.round (F6.out.next (Zh _ (.cells [I J (k:Int),I J 0,I J (tv.line:Int),I J (tv.col:Int),Λ Aa xa.1.len Ac].toArray 41))) (M6.out.next (Zh _ (.cells [I J (k:Int),I J 0,I J (tv.line:Int),I J (tv.col:Int),Λ Aa xa.1.len Ac].toArray 41)))).push o9 g9 at9 (((show Zs (fun k=>w2.heap.size+1≤k) w6 (Ru.ds ⟨(k:Int),0,(tv.line:Int),(tv.col:Int),xa.1⟩) [I J (k:Int),I J 0,I J (tv.line:Int),I J (tv.col:Int),Λ Aa xa.1.len Ac]from⟨_,rfl,_,rfl,_,rfl,_,rfl,A6.out⟩).below (Zh _ _)).mono fun k _ hk=>⟨by omega,fun c=>by have:=HR.out.row.row.lt _ c;omega⟩));clear o9 g9 at9))
    go_roundw
    case rel=>
     obtain⟨h1,h2,h3,h4,h5,h6,h7⟩:=HT.out;refine⟨m,acc++[⟨(k:Int),0,(tv.line:Int),(tv.col:Int),xa.1⟩],xs++[I J (k:Int),I J 0,I J (tv.line:Int),I J (tv.col:Int),Λ Aa xa.1.len Ac],s4,?_,?_,?_,?_,?_,HQP.out⟩
     ·have R:=R9.out
      rw[Zhg,List.length_append];exact R
     ·omega
     ·omega
     ·rw[List.length_append];simp only[List.length_cons,List.length_nil];omega
     ·rw[HQ.out,h1];simp
    case measure=>
     obtain⟨h1,h2,h3,h4,h5,h6,h7⟩:=HT.out;have:=R9.out.row.mv.at_.rem;rw[this,h5];omega
theorem kplace(n:Nat)(L:List TokV)(st:St)(hru:∀(w:World)(q c r K:Nat),PAt w q c r K L (Wp L st)→Calls Φ 86 #[Ω (some ⟨q,0,none⟩)] w (Zjw w q c r K L (Zbn 5 L n (Wp L st)).2 (Zbn 5 L n (Wp L st)).1.length (Un (Zbn 5 L n (Wp L st)).1)))
  (w:World)(q c r K:Nat)(h:PAt w q c r K L st) :
  Calls Φ 60 #[Ω (some ⟨q,0,none⟩)] w (Vq w q c r K L (Vj 5 L n 0 0 st).2 (Vj 5 L n 0 0 st).1.ds):=by
 have qin:=h.whole.inside;have cin:=h.cin;have rin:=h.rin;have nb:=Zh w (.cells #[Ψ ⟨#[]⟩,I J 0,I J 0,Λ none 0 0] 45);have nb2:=Zh (w.alloc (.cells #[Ψ ⟨#[]⟩,I J 0,I J 0,Λ none 0 0] 45)) (.cells #[Ψ ⟨#[]⟩,I J 0,I J 0,Λ none 0 0] 45);have M0:=Hh (((Xw.start h).next nb).next nb2);have R0:=Hh (show Zi _ w.heap.size 45 ([Ψ ⟨#[]⟩,I J 0,I J 0,Λ none 0 0]).toArray from(Zi.made w 45 #[Ψ ⟨#[]⟩,I J 0,I J 0,Λ none 0 0]).alloc (.cells #[Ψ ⟨#[]⟩,I J 0,I J 0,Λ none 0 0] 45));have T0:=Hh (show Zi _ (w.heap.size+1) 45 ([Ψ ⟨#[]⟩,I J 0,I J 0,Λ none 0 0]).toArray from by have e:=Zi.made (w.alloc (.cells #[Ψ ⟨#[]⟩,I J 0,I J 0,Λ none 0 0] 45)) 45 #[Ψ ⟨#[]⟩,I J 0,I J 0,Λ none 0 0];rw[World.size_alloc]at e;exact e);clear nb nb2;have hcell:=M0.out.at_.cell;unfold Vj;have r1:=Zbi L st;have h1:∀ w,PAt w q c r K L st→Calls Φ 80 #[Ω (some ⟨q,0,none⟩),.func (.func 81) #[Zdi c st] #[]] w (Ue w q c r K L (Wp L st) (Ψ (Zct L st))):=fun w h=>xreadName w q c r K L st h
 generalize Zct L st=nm at *;generalize Wp L st=s1 at *;have h6:∀ w,PAt w q c r K L s1→Calls Φ 86 #[Ω (some ⟨q,0,none⟩)] w (Zjw w q c r K L (Zbn 5 L n s1).2 (Zbn 5 L n s1).1.length (Un (Zbn 5 L n s1).1)):=fun w h=>hru w q c r K h
 clear hru;generalize Zbn 5 L n s1=x6 at *;clear h r1;go_enter Tryz.func60,Tryz.ntmps60;go_wp2_with(first
 |(go_at_call 80;refine(h1 _ M0.out.at_).mono ?_;rintro e w1 ⟨rfl,m1⟩
   have R1:=Hh (m1.keeps.whole R0.out (by omega));have T1:=Hh (m1.keeps.whole T0.out (by omega));have M1:=Hh (M0.out.then m1);have hz1:w.heap.size+2≤w1.heap.size:=by have:=m1.keeps.size;(try simp at this);omega
   have hcell:=M1.out.at_.cell;clear m1)
 |((with_reducible refine Zg 11 10 ?_);refine Zp 9 _ _ 45 (w.heap.size+1) 0 [] (Ψ ⟨#[]⟩) (Ψ nm) ([I J 0,I J 0,Λ none 0 0]) (show Zi _ _ _ _ from T1.out) rfl Zij rfl rfl rfl rfl rfl rfl ?_
   intro w2 p2;have T2:=Hh (show Zi w2 (w.heap.size+1) 45 ([Ψ nm,I J 0,I J 0,Λ none 0 0]).toArray from by first | exact p2.whole | simpa using p2.whole);have R2:=Hh (p2.keeps.whole R1.out (by omega));have M2:=Hh (M1.out.put p2 (by omega) qin cin rin);have hz2:=Ξ hz1 p2.keeps.size;have hcell:=M2.out.at_.cell;clear p2)
 |(go_at_call 86;refine(h6 _ M2.out.at_).mono ?_;rintro e w3 ⟨av,rfl,d3,m3⟩
   have R3:=Hh (m3.keeps.whole R2.out (by omega));have T3:=Hh (m3.keeps.whole T2.out (by omega));have M3:=Hh (M2.out.then m3);have hz3:=Ξ hz2 m3.keeps.size;have hcell:=M3.out.at_.cell;have A3:=Hh (d3.lower (show w.heap.size+2≤_ by first | omega | (simp;done) | (simp;omega)));obtain⟨Aa,Ac,rfl⟩:=A3.out.slice;clear m3 d3)
 |((with_reducible refine Zg 14 13 ?_);refine Zp 34 _ _ 45 (w.heap.size+1) 3 [Ψ nm,I J 0,I J 0] (Λ none 0 0) (Λ Aa x6.1.length Ac) ([]) (show Zi _ _ _ _ from T3.out) rfl size_rus rfl rfl rfl rfl rfl rfl ?_
   intro w4 p4;have T4:=Hh (show Zi w4 (w.heap.size+1) 45 ([Ψ nm,I J 0,I J 0,Λ Aa x6.1.length Ac]).toArray from by first | exact p4.whole | simpa using p4.whole);have R4:=Hh (p4.keeps.whole R3.out (by omega));have A4:=Hh (A3.out.put p4 (by omega));have M4:=Hh (M3.out.put p4 (by omega) qin cin rin);have hz4:=Ξ hz3 p4.keeps.size;have hcell:=M4.out.at_.cell;clear p4)
 |((with_reducible refine Zd 15 ?_);refine Zc 45 _ 45 (w.heap.size+1) _ T4.out row_pl Zoi rfl rfl rfl ?_)
 |((with_reducible refine Zg 2 15 ?_);refine Za 45 _ _ 45 (w.heap.size) _ ([Ψ nm,I J 0,I J 0,Λ Aa x6.1.length Ac]) R4.out rfl Zoi (by simp[Γ]) rfl rfl rfl rfl rfl ?_
   intro w5 p5;have R5:=Hh p5.whole;have T5:=Hh (p5.keeps.whole T4.out (by omega));have A5:=Hh (A4.out.put p5 (by omega));have M5:=Hh (M4.out.put p5 (by omega) qin cin rin);have hz5:=Ξ hz4 p5.keeps.size;have hcell:=M5.out.at_.cell;clear p5))
 exact Ya 2 45 45 w.heap.size _ rfl R5.out row_pl Zoi rfl rfl ⟨_,rfl,⟨_,rfl,_,rfl,_,rfl,A5.out.lower (by omega)⟩,M5.out⟩
theorem kfile(n:Nat)(L:List TokV)(st:St)(P:Nat→St→Prop)(hP:P n st)(hnx:∀ m s,P (m+1) s→¬ Zk L Xp s=0→¬ Zk L Xp s=1∧(∀(w:World)(q c r K:Nat),PAt w q c r K L (Ye L Xp s)→Calls Φ 60 #[Ω (some ⟨q,0,none⟩)] w (Vq w q c r K L (Vj 5 L m 0 0 (Ye L Xp s)).2 (Vj 5 L m 0 0 (Ye L Xp s)).1.ds))∧P m (Vj 5 L m 0 0 (Ye L Xp s)).2)
  (hn:8*Zx L st+10≤n)(hLn:Zx L st≤68719476736)(w:World)(q c r K:Nat)(h:PAt w q c r K L st) :
  Calls Φ 37 #[Ω (some ⟨q,0,none⟩)] w (Vq w q c r K L (Wk 5 L n st).2 (Wk 5 L n st).1.ds):=by
 have qin:=h.whole.inside;have cin:=h.cin;have rin:=h.rin;have nb:=Zh w (.cells #[Λ none 0 0,Λ none 0 0] 26);have nb2:=Zh (w.alloc (.cells #[Λ none 0 0,Λ none 0 0] 26)) (.cells #[Λ none 0 0,Λ none 0 0] 26)
 have H0:=Hh (show Zoc w q c r K L st [] [] [] [] (Λ none 0 0) (Λ none 0 0) ((w.alloc (.cells #[Λ none 0 0,Λ none 0 0] 26)).alloc (.cells #[Λ none 0 0,Λ none 0 0] 26))from
  ⟨((Xw.start h).next nb).next nb2,(Zi.made w 26 #[Λ none 0 0,Λ none 0 0]).alloc (.cells #[Λ none 0 0,Λ none 0 0] 26),by have e:=Zi.made (w.alloc (.cells #[Λ none 0 0,Λ none 0 0] 26)) 26 #[Λ none 0 0,Λ none 0 0];rw[World.size_alloc]at e;exact e,
    World.ownsRow_nil _ _ _ _,World.ownsRow_nil _ _ _ _,rfl,rfl,Zdr.nil _,qin,cin,rin⟩)
 have HN:=Hh (ζ hn hLn);have HP0:=Hh hP;have HNX:=Hh hnx;clear hn h hLn nb nb2 hP hnx;go_enter Tryz.func37,Tryz.ntmps37;go_wp2
 go_loopw [4] (fun v4 wr=>∃(m:Nat)(cs:List Ca)(ps:List Pl)(xc xp:List Value)(vc vp:Value)(s:St),Zoc w q c r K L s cs ps xc xp vc vp wr∧8*Zx L s+10≤m∧m≤n∧cs.length+ps.length+Zx L s≤Zx L st ∧
  Wk 5 L n st=(⟨cs++(Wk 5 L m s).1.cards,ps++(Wk 5 L m s).1.places⟩,(Wk 5 L m s).2)∧P m s) (fun _ wr=>remW q c wr)
 case atStart=>exact⟨n,[],[],[],[],_,_,st,H0.out,HN.out.1,Θ _,by simp,by simp,HP0.out⟩
 case round=>
  obtain⟨m,cs,ps,xc,xp,vc,vp,s,hR,hm,hmn,hacc,heq,hps⟩:=hrel;obtain⟨m,rfl⟩:∃ m',m=m'+1:=⟨m - 1,by omega⟩
  have hcell:=hR.mv.at_.cell;have hrem:=hR.mv.at_.rem;have hpk:=xPeek wr q c r K L s hR.mv.at_;have hz0:w.heap.size+2≤wr.heap.size:=by have:=hR.var.inside;omega
  obtain⟨fi0,fi1⟩:=find_inv L Xp s;have hfr:=Vt (L:=L) (ws:=Xp) (st:=s);have hfn:=Uh L (ws:=Xp) (st:=s);have hle:=Zen L Xp s;have hsp:=Zjs 5 L m s;have hs1:=Zna 5 L m s;have hs2:=Zlb 5 L m s;have hq:=HNX.out m s hps;clear hps;generalize s.tok L=tv at *;unfold Wz at hpk;generalize Zk L Xp s=k at *;generalize Ye L Xp s=s1 at *;have HR:=Hh hR;have HQ:=Hh heq;have hk3:k=0∨k=1∨k=2:=by have e:k≤2:=hle;omega
  clear hR heq hle;rcases hk3 with hk | hk | hk
  · have t1:∀ w,PAt w q c r K L s→Calls Φ 58 #[Zdi c s,Ψ ⟨#[99,97,114,100]⟩] w (Ue w q c r K L s (.bool false)):=fun w h=>by have e:isS L ⟨#[99,97,114,100]⟩ s=false:=fi0 hk 0 (by decide);have h1:=Zic w q c r K L s ⟨#[99,97,114,100]⟩ h;rw[e,Zcb e]at h1;exact h1
    have t2:∀ w,PAt w q c r K L s→Calls Φ 58 #[Zdi c s,Ψ ⟨#[112,108,97,99,101]⟩] w (Ue w q c r K L s (.bool false)):=fun w h=>by have e:isS L ⟨#[112,108,97,99,101]⟩ s=false:=fi0 hk 1 (by decide);have h1:=Zic w q c r K L s ⟨#[112,108,97,99,101]⟩ h;rw[e,Zcb e]at h1;exact h1
    have HS:=Hh (hsp hk);clear hq;clear hs1 hs2 hsp hfn hfr hm hmn hacc hrem fi0 fi1 hk;go_wp2_with(first
 |(go_at_call 55;refine hpk.mono ?_;rintro e w1 ⟨rfl,b1⟩
   have nb:=Zh w1 (.cells #[I J tv.k,Ψ tv.t,I J tv.n,I J (tv.line:Int),I J (tv.col:Int)] 54);have M1:=Hh ((HR.out.mv.next b1).next nb);have hcell:=M1.out.at_.cell;have F1:=Hh (((Zag.start q c wr).next b1).next nb);have K1:=Hh (Zi.made w1 54 #[I J tv.k,Ψ tv.t,I J tv.n,I J (tv.line:Int),I J (tv.col:Int)]);have hz1:wr.heap.size≤w1.heap.size:=b1.size;clear b1 nb)
 |(go_at_call 58;(with_reducible refine(t1 _ ?_).mono ?_);exact M1.out.at_;rintro e w2 ⟨rfl,m2⟩
   have M2:=Hh (M1.out.then m2);have hcell:=M2.out.at_.cell;have F2:=Hh (F1.out.move m2);have K2:=Hh (m2.keeps.whole K1.out (by omega));have hz2:w1.heap.size+1≤w2.heap.size:=by have:=m2.keeps.size;(try simp at this);omega
   clear m2)
 |(go_at_call 58;(with_reducible refine(t2 _ ?_).mono ?_);exact M2.out.at_;rintro e w3 ⟨rfl,m3⟩
   have M3:=Hh (M2.out.then m3);have hcell:=M3.out.at_.cell;have F3:=Hh (F2.out.move m3);have K3:=Hh (m3.keeps.whole K2.out (by omega));have hz3:=Ξ hz2 m3.keeps.size;clear m3)
 |((with_reducible refine Zd 12 ?_);refine Zc 26 _ 26 (w.heap.size+1) [vc,vp] (HR.out.round F3.out M3.out).var Zck Va rfl rfl rfl ?_)
 |((with_reducible refine Zg 2 12 ?_);refine Za 26 _ _ 26 w.heap.size [Λ none 0 0,Λ none 0 0] [vc,vp] (HR.out.round F3.out M3.out).res rfl Va (by obtain⟨_,_,e1,_⟩:=Yx HR.out.rc;obtain⟨_,_,e2,_⟩:=Yx HR.out.rp;rw[e1,e2];simp[Γ]) rfl rfl rfl rfl rfl ?_
   intro w4 p4;have R4:=Hh p4.whole;have R3:=Hh (HR.out.round F3.out M3.out)
   have P4:=Hh p4;clear p4))
    refine Ya 2 26 26 w.heap.size _ rfl R4.out Zck Va rfl rfl ⟨_,rfl,?_,?_⟩
    ·rw[HQ.out,HS.out]
     dsimp only;rw[List.append_nil,List.append_nil];have R:=R3.out;have a:=Zs.rowOf R.rp (N:=fun k=>w.heap.size+2≤k) (fun k hk=>hk) (R.dp.mono fun k _ hk=>hk.1);have b:=Zs.rowOf R.rc (N:=fun k=>w.heap.size+2≤k) (fun k hk=>hk) (R.dc.mono fun k _ hk=>hk.1);exact((Zs.app (x:=.row cs.length (Zcg cs) .nil) a b).keeps P4.out.keeps (M:=fun k=>w.heap.size≤k) fun k _ hk=>⟨by omega,by omega⟩)
    ·rw[HQ.out,HS.out]
     exact R3.out.mv.put P4.out (Θ _) qin cin rin
  ·exact absurd hk (hq (by omega)).1
  · have t1:∀ w,PAt w q c r K L s→Calls Φ 58 #[Zdi c s,Ψ ⟨#[99,97,114,100]⟩] w (Ue w q c r K L s (.bool false)):=fun w h=>by have e:isS L ⟨#[99,97,114,100]⟩ s=false:=(fi1 1 hk).1 0 (by decide);have h1:=Zic w q c r K L s ⟨#[99,97,114,100]⟩ h;rw[e,Zcb e]at h1;exact h1
    have t2:∀ w,PAt w q c r K L s→Calls Φ 58 #[Zdi c s,Ψ ⟨#[112,108,97,99,101]⟩] w (Ue w q c r K L s1 (.bool true)):=fun w h=>by have e:=(fi1 1 hk).2;have e1:isS L ⟨#[112,108,97,99,101]⟩ s=true:=e.1;have e2:s1=Vu L ⟨#[112,108,97,99,101]⟩ s:=e.2;have h1:=Zic w q c r K L s ⟨#[112,108,97,99,101]⟩ h;rw[e1,←e2]at h1;exact h1
    have hst:=hs2 hk;obtain⟨_,hqa,hqp⟩:=hq (by omega);clear hq;have HQP:=Hh hqp;clear hqp;have hfr:=hfr (by omega);have hrc:=Zmu L 5 m 0 0 s1;have hca:∀ w,PAt w q c r K L s1→Calls Φ 60 #[Ω (some ⟨q,0,none⟩)] w (Vq w q c r K L (Vj 5 L m 0 0 s1).2 (Vj 5 L m 0 0 s1).1.ds):=fun w h=>hqa w q c r K h
    clear hqa;rw[show Vj 5 L m (tv.line:Int) (tv.col:Int) s1=(⟨(Vj 5 L m 0 0 s1).1.name,(tv.line:Int),(tv.col:Int),(Vj 5 L m 0 0 s1).1.rules⟩,(Vj 5 L m 0 0 s1).2)from rfl]at hst;generalize Vj 5 L m 0 0 s1=xx at *;obtain⟨x,s2⟩:=xx;dsimp only at hst hrc hca;have HT:=Hh (ζ hst (ζ hm (ζ hmn (ζ hacc (ζ hrem (ζ hfr hrc))))));clear hs1 hs2 hsp hfn hm hmn hacc hrem fi0 fi1 hk hst hfr hrc;go_wp2_with(first
 |(go_at_call 55;refine hpk.mono ?_;rintro e w1 ⟨rfl,b1⟩
   have nb:=Zh w1 (.cells #[I J tv.k,Ψ tv.t,I J tv.n,I J (tv.line:Int),I J (tv.col:Int)] 54);have M1:=Hh ((HR.out.mv.next b1).next nb);have hcell:=M1.out.at_.cell;have F1:=Hh (((Zag.start q c wr).next b1).next nb);have K1:=Hh (Zi.made w1 54 #[I J tv.k,Ψ tv.t,I J tv.n,I J (tv.line:Int),I J (tv.col:Int)]);have hz1:wr.heap.size≤w1.heap.size:=b1.size;clear b1 nb)
 |(go_at_call 58;(with_reducible refine(t1 _ ?_).mono ?_);exact M1.out.at_;rintro e w2 ⟨rfl,m2⟩
   have M2:=Hh (M1.out.then m2);have hcell:=M2.out.at_.cell;have F2:=Hh (F1.out.move m2);have K2:=Hh (m2.keeps.whole K1.out (by omega));have hz2:w1.heap.size+1≤w2.heap.size:=by have:=m2.keeps.size;(try simp at this);omega
   clear m2)
 |(go_at_call 58;(with_reducible refine(t2 _ ?_).mono ?_);exact M2.out.at_;rintro e w3 ⟨rfl,m3⟩
   have M3:=Hh (M2.out.then m3);have hcell:=M3.out.at_.cell;have F3:=Hh (F2.out.move m3);have K3:=Hh (m3.keeps.whole K2.out (by omega));have hz3:=Ξ hz2 m3.keeps.size;clear m3)
 |(go_at_call 60;refine(hca _ M3.out.at_).mono ?_;rintro e w4 ⟨vs,rfl,d4,m4⟩
   obtain⟨_,rfl,_,rfl,_,rfl,dr⟩:=d4;obtain⟨Aa,Ac,rs,tt,e1,dn,d5,d6,rfl⟩:=dr;subst e1;have nb:=Zh w4 (.cells #[Ψ x.name,I J x.line,I J x.col,Λ Aa x.rules.length Ac] 45);have M4:=Hh ((M3.out.then m4).next nb);have F4:=Hh ((F3.out.move m4).next nb);have K4:=m4.keeps.whole K3.out (by omega);have y3:∀ o,(w4.alloc o).cell? ⟨w1.heap.size,3,none⟩=some (I J (tv.line:Int)):=fun o=>(K4.alloc o).read 3
   have y4:∀ o,(w4.alloc o).cell? ⟨w1.heap.size,4,none⟩=some (I J (tv.col:Int)):=fun o=>(K4.alloc o).read 4
   have hz4:w3.heap.size≤w4.heap.size:=m4.keeps.size;have D4:=Hh (show Zs (fun k=>w3.heap.size≤k) w4 (.row x.rules.length (Un x.rules) .nil) [Λ Aa x.rules.length Ac]from⟨Aa,Ac,rs,[],rfl,dn,d5,d6,rfl⟩);have hne:¬(w4.heap.size=w1.heap.size):=by omega
   have X4:=Hh m4;clear m4 nb K4 dn d5 d6))
    go_region
    have T5:=Hh (show Zi (w4.alloc (.cells #[Ψ x.name,I J (tv.line:Int),I J (tv.col:Int),Λ Aa x.rules.length Ac] 45)).drew w4.heap.size 45 ([Ψ x.name,I J (tv.line:Int),I J (tv.col:Int),Λ Aa x.rules.length Ac]:List Value).toArray from(Zi.made w4 45 #[Ψ x.name,I J (tv.line:Int),I J (tv.col:Int),Λ Aa x.rules.length Ac]).drew);have k5:Zy (fun _=>False) (w4.alloc (.cells #[Ψ x.name,I J x.line,I J x.col,Λ Aa x.rules.length Ac] 45)) (w4.alloc (.cells #[Ψ x.name,I J (tv.line:Int),I J (tv.col:Int),Λ Aa x.rules.length Ac] 45)).drew→True:=fun _=>trivial
    have nb:=Zh w4 (.cells #[Ψ x.name,I J (tv.line:Int),I J (tv.col:Int),Λ Aa x.rules.length Ac] 45);have M5:=Hh (((M3.out.then X4.out).next nb).drew);have F5:=Hh (((F3.out.move X4.out).next nb).drew);have D5:=Hh ((D4.out.below nb).keeps (S:=fun _=>False) (Zy.drew (Zy.refl _ _)) (M:=fun k=>w3.heap.size≤k) (fun k _ hk=>⟨id,hk⟩));have hz5:w4.heap.size+1≤(w4.alloc (.cells #[Ψ x.name,I J (tv.line:Int),I J (tv.col:Int),Λ Aa x.rules.length Ac] 45)).drew.heap.size:=T5.out.inside;clear nb y3 y4 k5;generalize(w4.alloc (.cells #[Ψ x.name,I J (tv.line:Int),I J (tv.col:Int),Λ Aa x.rules.length Ac] 45)).drew=w5 at *;have R5:=Hh (HR.out.round F5.out M5.out);have hT:w5.cell? ⟨w.heap.size+1,1,none⟩=some (vp):=R5.out.var.read 1;have D6:=Hh (show Zs (fun k=>w3.heap.size≤k) w5 (⟨x.name,(tv.line:Int),(tv.col:Int),x.rules⟩:Pl).ds [Ψ x.name,I J (tv.line:Int),I J (tv.col:Int),Λ Aa x.rules.length Ac]from⟨_,rfl,_,rfl,_,rfl,D5.out⟩);go_wp2_with(first
 |((with_reducible refine Zd 49 ?_);refine Zc 45 _ 45 w4.heap.size _ T5.out row_pl Zoi rfl rfl rfl ?_)
 |(at_builtin;refine Wf (.tmp 48) (.tmp 50) 24 45 4 56 _ und_pls info_pl rfl (by decide) (by decide) (w.heap.size+2) (vp) ps.length xp [Ψ x.name,I J (tv.line:Int),I J (tv.col:Int),Λ Aa x.rules.length Ac] (R5.out.round (Zag.next (Zag.start q c _) (Zh w5 (.cells [Ψ x.name,I J (tv.line:Int),I J (tv.col:Int),Λ Aa x.rules.length Ac].toArray 45))) (R5.out.mv.next (Zh w5 (.cells [Ψ x.name,I J (tv.line:Int),I J (tv.col:Int),Λ Aa x.rules.length Ac].toArray 45)))).rp w5.heap.size (Zi.made _ _ _) rfl (by simp[Γ]) (by have:=HT.out.2.2.2.1;have:=HN.out.2;omega) (by simp;omega) rfl rfl rfl rfl ?_
   intro v9 w9 o9 g9 at9;have R9:=Hh (R5.out.round (Zag.next (Zag.start q c _) (Zh w5 (.cells [Ψ x.name,I J (tv.line:Int),I J (tv.col:Int),Λ Aa x.rules.length Ac].toArray 45))) (R5.out.mv.next (Zh w5 (.cells [Ψ x.name,I J (tv.line:Int),I J (tv.col:Int),Λ Aa x.rules.length Ac].toArray 45))));have O9:=Hh (ζ o9 (ζ g9 at9));have V9:=Hh (Zad g9 R9.out.var (fun c=>by have:=(HR.out.rp.lt _ c).1;omega));obtain⟨A9,c9,rfl,_⟩:=Yx o9;clear o9 g9 at9)
 |((with_reducible refine Zg 52 51 ?_);refine Zp 24 _ _ 26 (w.heap.size+1) 1 [vc] (vp) (Λ A9 (ps.length+1) c9) [] V9.out rfl size_pls rfl rfl rfl rfl rfl rfl ?_
   intro w10 p10;have R10:=Hh (R9.out.pushP ⟨x.name,(tv.line:Int),(tv.col:Int),x.rules⟩ O9.out.1 O9.out.2.1 O9.out.2.2 ((D6.out.below (Zh w5 (.cells [Ψ x.name,I J (tv.line:Int),I J (tv.col:Int),Λ Aa x.rules.length Ac].toArray 45))).mono fun k _ hk=>⟨by omega,fun c=>by have:=HR.out.rc.lt _ c;omega,fun c=>by have:=HR.out.rp.lt _ c;omega⟩) p10)
   clear p10))
    go_roundw
    case rel=>
     obtain⟨h1,h2,h3,h4,h5,h6,h7⟩:=HT.out;refine⟨m,cs,ps++[⟨x.name,(tv.line:Int),(tv.col:Int),x.rules⟩],_,_,_,_,s2,R10.out,?_,?_,?_,?_,HQP.out⟩
     ·omega
     ·omega
     ·rw[List.length_append];simp only[List.length_cons,List.length_nil];omega
     ·rw[HQ.out,h1];simp
    case measure=>
     obtain⟨h1,h2,h3,h4,h5,h6,h7⟩:=HT.out;have:=R10.out.mv.at_.rem;rw[this,h5];omega
end Go.Proofs.YtbdecchpleiepaaGreat
