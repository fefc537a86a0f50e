/- Parts of the proof. No conditions but those that each names. -/
import Derived.Test.YtbdecchpleiepaaGreatQL38
set_option maxRecDepth 20000
set_option maxHeartbeats 99000000
set_option linter.unusedVariables false
set_option linter.unusedSimpArgs false
namespace Go.Proofs.YtbdecchpleiepaaGreat
open Go.Value renaming int→I,slice→Λ,pointer→Ω,string→Ψ,oneCell'→Γ
open Go.IntKind renaming i64→J
open _root_.Go.Proofs.Tryz renaming prog→Φ
open Nat renaming le_refl→Θ
open Go.ChangeShapes Go.WideShapes Go.ChangeAt Go.RowKit
theorem kParse(s:ByteArray)(hg:(Xq (Wh s) (Zki 5 s).2).good=true)(hsub:∀ w q c r K,PAt w q c r K (Wh s) (Je s)→Calls Φ 37 #[Ω (some ⟨q,0,none⟩)] w (Vq w q c r K (Wh s) (Zki 5 s).2 (Zki 5 s).1.ds))
  (w:World)(hs:s.size≤65536):Calls Φ 15 #[Ψ s] w (Zhu w (Zcn 5 s).1.ds (Zcn 5 s).2):=by
 have hr:=Zli s;have hl:=text_len s hs;have hbe:∀ w,Calls Φ 35 #[Ψ s] w (Zng w s):=fun w=>xbegin s w hs
 unfold Zng at hbe;unfold Zcn;generalize Zki 5 s=o at *;generalize Wh s=L at *;generalize Je s=st at *;clear hr hl hs;have n1:=Zh w (.cells #[Λ none 0 0,Λ none 0 0] 26);have n2:=Zh (w.alloc (.cells #[Λ none 0 0,Λ none 0 0] 26)) (.cells #[I J 0,I J 0,I J 0] 29);have R0:=Hh ((show Zi _ w.heap.size 26 ([Λ none 0 0,Λ none 0 0]).toArray from Zi.made w 26 #[Λ none 0 0,Λ none 0 0]).alloc (.cells #[I J 0,I J 0,I J 0] 29));have F0:=Hh (show Zi ((w.alloc (.cells #[Λ none 0 0,Λ none 0 0] 26)).alloc (.cells #[I J 0,I J 0,I J 0] 29)) (w.heap.size+1) 29 ([I J 0,I J 0,I J 0]:List Value).toArray from by have e:=Zi.made (w.alloc (.cells #[Λ none 0 0,Λ none 0 0] 26)) 29 #[I J 0,I J 0,I J 0];rw[World.size_alloc]at e;exact e);have B0:=Hh (Wg n1 n2);have hz0:((w.alloc (.cells #[Λ none 0 0,Λ none 0 0] 26)).alloc (.cells #[I J 0,I J 0,I J 0] 29)).heap.size=w.heap.size+2:=by simp
 rw[if_pos hg];go_enter Tryz.func15,Tryz.ntmps15;go_wp2_with(first
 |(go_at_call 35;refine(hbe _).mono ?_;rintro e w1 ⟨q,c,r,K,rfl,hp,hq,hc,b1⟩
   rw[hz0]at hq hc;have hz1:w.heap.size+2≤w1.heap.size:=by have:=b1.size;rw[hz0]at this;exact this
   have R1:=Hh (R0.out.below b1 R0.out.inside);have F1:=Hh (F0.out.below b1 F0.out.inside);have B1:=Hh (bthen2 B0.out b1 (by rw[hz0];omega));have hq2:=hp.whole.inside;have hc2:=hp.cin;have P1:=Hh hp;clear hp b1)
 |(go_at_call 37;refine(hsub _ q c r K P1.out).mono ?_;rintro e w2 ⟨vs,rfl,d2,m2⟩
   obtain⟨va,vb,rfl⟩:=Zgg vs d2.len;have R2:=Hh (m2.keeps.whole R1.out (by omega));have F2:=Hh (m2.keeps.whole F1.out (by omega));have B2:=Hh (below_move B1.out m2 (by omega) (by omega) (by omega));have P2:=Hh m2.at_;have hz2:w1.heap.size≤w2.heap.size:=m2.keeps.size;have D2:=Hh d2;clear m2 d2)
 |(go_at_call 36;refine(xfinF _ q c r K L o.2 va vb D2.out.one P2.out).mono ?_;rintro e w3 ⟨e3,m3⟩
   rw[hg]at e3;rw[if_pos rfl]at e3;obtain rfl:=e3;have R3:=Hh (m3.keeps.whole R2.out (by omega));have F3:=Hh (m3.keeps.whole F2.out (by omega));have B3:=Hh (below_move B2.out m3 (by omega) (by omega) (by omega));have hz3:w2.heap.size≤w3.heap.size:=m3.keeps.size;have D3:=Hh (D2.out.move m3 hq2 hc2);simp only[Zr];clear m3)
 |((with_reducible refine Zg 2 11 ?_);refine Za 26 _ _ 26 w.heap.size _ [va,vb] R3.out rfl Va D2.out.one rfl rfl rfl rfl rfl ?_
   intro w4 p4;have R4:=Hh p4.whole;have F4:=Hh (p4.keeps.whole F3.out (by omega));have B4:=Hh (Zec B3.out p4 (Θ _) (by omega));have D4:=Hh (D3.out.put p4 (by omega));have hz4:w3.heap.size≤w4.heap.size:=p4.keeps.size;clear p4)
 |((with_reducible refine Zg 3 12 ?_);refine Za 29 _ _ 29 (w.heap.size+1) _ [I J (Xb (Xq L o.2)).1,I J ((Xb (Xq L o.2)).2.1:Int),I J ((Xb (Xq L o.2)).2.2:Int)] F4.out rfl Vb (by simp[Γ]) rfl rfl rfl rfl rfl ?_
   intro w5 p5;have F5:=Hh p5.whole;have R5:=Hh (p5.keeps.whole R4.out (by omega));have B5:=Hh (Zec B4.out p5 (by omega) (by omega));have D5:=Hh (D4.out.put p5 (by omega));clear p5))
 exact Yp 2 26 3 29 26 29 _ _ _ _ rfl R5.out F5.out Zck Va Zcl Vb rfl rfl rfl ⟨_,rfl,(D5.out.lower (by omega)),B5.out⟩
end Go.Proofs.YtbdecchpleiepaaGreat
