/-
  No conditions but those that each theorem names.
-/
import Derived.Deep.QuietTactic
import Derived.BigQuiet
import Derived.RegionTactic
import Derived.IntWalk
import Derived.Test.YtljdgdphldckhaaGreatQU34
set_option maxRecDepth 20000
set_option maxHeartbeats 12800000
namespace Go.Proofs.YtljdgdphldckhaaGreat
open Go.ChangeShapes Go.WideShapes Go.ChangeAt Go.RowKit
set_option linter.unusedVariables false
set_option linter.unusedSimpArgs false
structure Zgc(w:World)(xs rs:List Value)(x:World):Prop where
 box:Zd x w.heap.size 82 xs.toArray
 res:Zd x (w.heap.size+1) 82 rs.toArray
 below:Below w.heap.size w x
 size:w.heap.size+2≤x.heap.size
theorem Zgc.start(w:World)(xs rs:List Value):Zgc w xs rs ((w.alloc (.cells xs.toArray 82)).alloc (.cells rs.toArray 82)):=by
 refine⟨(Zd.made w _ xs.toArray).alloc _,?_,(Ul (Zh w _) (Zh _ _)),by simp⟩;have e:=Zd.made (w.alloc (.cells xs.toArray 82)) 82 rs.toArray;rw[World.size_alloc]at e;exact e
theorem Zgc.next{w x y:World}{xs rs:List Value}(h:Zgc w xs rs x)(b:Below x.heap.size x y):Zgc w xs rs y:=
 ⟨h.box.below b (by have:=h.size;omega),h.res.below b (by have:=h.size;omega),h.below.trans (b.mono (by have:=h.size;omega)),by have:=h.size;have:=b.size;omega⟩
theorem Zgc.drew{w x:World}{xs rs:List Value}(h:Zgc w xs rs x):Zgc w xs rs x.drew:=⟨h.box,h.res,Wg h.below,h.size⟩
theorem Zgc.drewN{w x:World}{xs rs:List Value}(h:Zgc w xs rs x)(n:Nat):Zgc w xs rs (x.drewN n):=⟨h.box,h.res,Zoc h.below n,h.size⟩
theorem Zgc.setB{w x y:World}{xs ys rs:List Value}(h:Zgc w xs rs x)(p:Put x y w.heap.size 82 ys):Zgc w ys rs y:=
 ⟨p.whole,p.keeps.whole h.res (by omega),Zcg h.below p (Nat.le_refl _) (by have:=h.size;omega),by have:=h.size;have:=p.keeps.size;omega⟩
theorem Zgc.setR{w x y:World}{xs ys rs:List Value}(h:Zgc w xs rs x)(p:Put x y (w.heap.size+1) 82 ys):Zgc w xs ys y:=
 ⟨p.keeps.whole h.box (by omega),p.whole,Zcg h.below p (by omega) (by have:=h.size;omega),by have:=h.size;have:=p.keeps.size;omega⟩
theorem qmay(w:World)(r K:Nat)(L:List TokV)(st:St)(vs:List Value)(ws:List ByteArray)(g n m:Nat)(ho:Ya w r K L)(hp:RPv r K L st vs)(hw:Zoe w g ws)(hn:n=ws.length)(hl:n≤64) :
  Calls Tryz.prog 47 #[.agg vs.toArray,.slice (some ⟨g,0,none⟩) n m] w (PVo w r K L (Yu L ws st) (.int .i64 (Zj L ws st))):=by
 have l64:(n:Int)≤64:=by omega
 cases st with
 |bad F=>
  obtain⟨A,nb,kb,a,d,rfl,hd,hF⟩:=hp.bad;obtain⟨f0,f1,f2⟩:=F;have z0:(f0 == 0)=false:=by rw[beq_eq_false_iff_ne];exact hF
  have HF:=Hh hF;have T0:=Hh (Zgc.start w [.slice A nb kb,.int .i64 (a:Int),.int .i64 (d:Int),.int .i64 f0,.int .i64 (f1:Int),.int .i64 (f2:Int)] [.slice none 0 0,.int .i64 0,.int .i64 0,.int .i64 0,.int .i64 0,.int .i64 0]);clear ho hp hF hw hn;go_enter Tryz.func47,Tryz.ntmps47;go_wp2
  go_loopw [6] (fun i wr=>i=.int .i64 0∧Zgc w [.slice A nb kb,.int .i64 (a:Int),.int .i64 (d:Int),.int .i64 f0,.int .i64 (f1:Int),.int .i64 (f2:Int)] [.slice none 0 0,.int .i64 0,.int .i64 0,.int .i64 0,.int .i64 0,.int .i64 0] wr) (fun i _=>0)
  case atStart=>exact⟨rfl,T0.out⟩
  case round=>
    obtain⟨rfl,hT⟩:=hrel;obtain⟨c0,c1,c2,c3,c4,c5⟩:=Wq hT.box;have T:=Hh hT;clear hT;go_wp2_with(first
 |((with_reducible refine Ze 33 ?_);refine Zb 82 _ 82 (w.heap.size) _ T.out.box Zn Yg rfl rfl rfl ?_)
 |((with_reducible refine Zi 4 33 ?_);refine Za 82 _ _ 82 (w.heap.size+1) _ [.slice A nb kb,.int .i64 (a:Int),.int .i64 (d:Int),.int .i64 f0,.int .i64 (f1:Int),.int .i64 (f2:Int)] T.out.res rfl Yg (by simp[Value.oneCell']) rfl rfl rfl rfl rfl ?_
   intro w1 p1;have T1:=Hh (T.out.setR p1)
   clear p1))
    all_goals exact Xm 4 82 5 82 _ _ _ rfl T1.out.res Zn Yg rfl rfl rfl ⟨_,rfl,RPv.mkBad (F:=(f0,f1,f2)) _ _ _ _ _ hd HF.out,T1.out.below⟩
 |ok a d=>
  obtain⟨nn,hnn,rfl,ha,hd⟩:=hp.ok;have hpos:0<L.length:=by omega
  have hrow:∀ x,Below w.heap.size w x→Zai x r K L:=fun x hb=>(ho hpos).below hb
  have hon:=(ho hpos).ends.on ha;have hwx:∀ x,Below w.heap.size w x→Zoe x g ws:=fun x hb=>Zd.below hw hb hw.inside
  have HO:=Hh hrow;have HX:=Hh hwx;have HM:=Hh (And.intro hnn (And.intro ha (And.intro hn (And.intro hd hon))));have T0:=Hh (Zgc.start w [.slice (some ⟨r,0,none⟩) nn K,.int .i64 (a:Int),.int .i64 (d:Int),.int .i64 0,.int .i64 0,.int .i64 0] [.slice none 0 0,.int .i64 0,.int .i64 0,.int .i64 0,.int .i64 0,.int .i64 0]);clear ho hp hw hn hnn ha hpos hrow hwx hd hon;go_enter Tryz.func47,Tryz.ntmps47;go_wp2
  go_loopw [6] (fun i wr=>∃ k:Nat,i=.int .i64 k∧k≤n∧Zgc w [.slice (some ⟨r,0,none⟩) nn K,.int .i64 (a:Int),.int .i64 (d:Int),.int .i64 0,.int .i64 0,.int .i64 0] [.slice none 0 0,.int .i64 0,.int .i64 0,.int .i64 0,.int .i64 0,.int .i64 0] wr∧∀ j,j<k→isT (Zv L a) (ws.getD j ⟨#[]⟩)=false) (fun i _=>n - (intOf i).toNat)
  case atStart=>exact⟨0,by go_num,Nat.zero_le _,T0.out,fun j hj=>by omega⟩
  case round=>
    obtain⟨k,rfl,hk,hT,hj⟩:=hrel;obtain⟨c0,c1,c2,c3,c4,c5⟩:=Wq hT.box;have T:=Hh hT;have HJ:=Hh hj;obtain⟨M1,M2,M3,M4,M5⟩:=HM.out;have HW:=HX.out _ hT.below;by_cases hlt:k<n
    ·have hx:=HW.at_ (k:=k) (by omega)
     have hi:=HW.inside;generalize hv:isT (Zv L a) (ws.getD k ⟨#[]⟩)=b;have ht:∀ x,Zgc w [.slice (some ⟨r,0,none⟩) nn K,.int .i64 (a:Int),.int .i64 (d:Int),.int .i64 0,.int .i64 0,.int .i64 0] [.slice none 0 0,.int .i64 0,.int .i64 0,.int .i64 0,.int .i64 0,.int .i64 0] x→Calls Tryz.prog 99 #[.agg #[.slice (some ⟨r,0,none⟩) nn K,.int .i64 (a:Int),.int .i64 (d:Int)],.string (ws.getD k ⟨#[]⟩)] x (fun e w'=>e=.returned (.bool b)∧Below x.heap.size x w'):=fun x h=>by rw[←hv];exact qIs x r K L nn a d _ M1 (HO.out _ h.below) M2
     have HT:=Hh ht;generalize hX:ws.getD k ⟨#[]⟩=tx at *;have HV:=Hh hv;have HXx:=Hh hX;have hlt':(k:Int)<(n:Int):=by omega
     have e1:IntKind.i64.wrap ((k:Int)+1)=(k:Int)+1:=IntWalk.i64_in _ (by omega);have HK:=Hh (show k<ws.length by omega);have HE1:=Hh e1;clear hT hj HW hv hk ht hX M1 M2 M3 M4 M5 e1;cases b
     ·go_wp2
      go_region_with(go_at_call 99;refine(HT.out _ (by first | exact T.out.drew | exact T.out.drewN _ | exact T.out)).mono ?_;rintro e w1 ⟨rfl,b1⟩;have T1:=Hh ((by first | exact T.out.drew | exact T.out.drewN _ | exact T.out:Zgc w [.slice (some ⟨r,0,none⟩) nn K,.int .i64 (a:Int),.int .i64 (d:Int),.int .i64 0,.int .i64 0,.int .i64 0] [.slice none 0 0,.int .i64 0,.int .i64 0,.int .i64 0,.int .i64 0,.int .i64 0] _).next b1);clear b1)
      all_goals
       have hj:=HJ.out;have hk:=HK.out;have e1:=HE1.out;go_wp2
       go_roundw
       case rel=>
        refine⟨k+1,by go_num,by omega,T1.out,fun j hj'=>?_⟩;by_cases e:j=k
        ·subst e;rw[HXx.out];exact HV.out
        ·exact hj j (by omega)
       case measure=>simp[intOf];omega
     ·go_wp2
      go_region_with(go_at_call 99;refine(HT.out _ (by first | exact T.out.drew | exact T.out.drewN _ | exact T.out)).mono ?_;rintro e w1 ⟨rfl,b1⟩;have T1:=Hh ((by first | exact T.out.drew | exact T.out.drewN _ | exact T.out:Zgc w [.slice (some ⟨r,0,none⟩) nn K,.int .i64 (a:Int),.int .i64 (d:Int),.int .i64 0,.int .i64 0,.int .i64 0] [.slice none 0 0,.int .i64 0,.int .i64 0,.int .i64 0,.int .i64 0,.int .i64 0] _).next b1);clear b1;obtain⟨d0,d1,d2,d3,d4,d5⟩:=Wq T1.out.box)
      all_goals
       go_wp2_with(first
 |(go_at_call 100;refine(qOn _ r K L nn a d HM.out.1 (HO.out _ T1.out.below) HM.out.2.1).mono ?_;rintro e w2 ⟨rfl,b2⟩;have T2:=Hh (T1.out.next b2);clear b2)
 |((with_reducible refine Zi 29 28 ?_);refine Xn 80 _ _ 82 (w.heap.size) 0 [] [.slice (some ⟨r,0,none⟩) nn K,.int .i64 (a:Int),.int .i64 (d:Int)] [.int .i64 0,.int .i64 0,.int .i64 0] [.slice (some ⟨r,0,none⟩) nn K,.int .i64 (onA L a:Int),.int .i64 (d:Int)] (by first | exact T2.out.box | simpa using T2.out.box) rfl rfl Vz (by simp[Value.oneCell']) rfl rfl rfl rfl rfl ?_
   intro w3 p3;have T3:=Hh (T2.out.setB (ys:=[.slice (some ⟨r,0,none⟩) nn K,.int .i64 (onA L a:Int),.int .i64 (d:Int),.int .i64 0,.int .i64 0,.int .i64 0]) (by simpa using p3));clear p3)
 |((with_reducible refine Ze 30 ?_);refine Zb 82 _ 82 (w.heap.size) _ T3.out.box Zn Yg rfl rfl rfl ?_)
 |((with_reducible refine Zi 4 30 ?_);refine Za 82 _ _ 82 (w.heap.size+1) _ [.slice (some ⟨r,0,none⟩) nn K,.int .i64 (onA L a:Int),.int .i64 (d:Int),.int .i64 0,.int .i64 0,.int .i64 0] T3.out.res rfl Yg (by simp[Value.oneCell']) rfl rfl rfl rfl rfl ?_
   intro w4 p4;have T4:=Hh (T3.out.setR p4)
   clear p4))
       refine Xm 4 82 5 82 _ _ _ rfl T4.out.res Zn Yg rfl rfl rfl ?_;obtain⟨M1,M2,M3,M4,M5⟩:=HM.out;have hf:=idx_hit (Zv L a) ws k HK.out HJ.out (by rw[HXx.out];exact HV.out);refine⟨[.slice (some ⟨r,0,none⟩) nn K,.int .i64 (onA L a:Int),.int .i64 (d:Int),.int .i64 0,.int .i64 0,.int .i64 0],?_,?_,T4.out.below⟩
       ·show _=Ending.returned (.tuple #[_,.int .i64 (Zac (Zv L a) ws:Int)])
        rw[hf];rfl
       ·show RPv r K L (if Zac (Zv L a) ws=0 then _ else _) _
        rw[if_neg (by omega)];exact RPv.mkOk M1 M5 M4
    ·have e:=idx_miss (Zv L a) ws (fun j hj'=>hj j (by omega))
     have HE:=Hh e;have hge:(n:Int)≤(k:Int):=by omega
     clear hT hj HW hk M1 M2 M3 M4 M5 e;go_wp2_with(first
 |((with_reducible refine Ze 33 ?_);refine Zb 82 _ 82 (w.heap.size) _ T.out.box Zn Yg rfl rfl rfl ?_)
 |((with_reducible refine Zi 4 33 ?_);refine Za 82 _ _ 82 (w.heap.size+1) _ [.slice (some ⟨r,0,none⟩) nn K,.int .i64 (a:Int),.int .i64 (d:Int),.int .i64 0,.int .i64 0,.int .i64 0] T.out.res rfl Yg (by simp[Value.oneCell']) rfl rfl rfl rfl rfl ?_
   intro w1 p1;have T1:=Hh (T.out.setR p1)
   clear p1))
     refine Xm 4 82 5 82 _ _ _ rfl T1.out.res Zn Yg rfl rfl rfl ?_;obtain⟨M1,M2,M3,M4,M5⟩:=HM.out;refine⟨[.slice (some ⟨r,0,none⟩) nn K,.int .i64 (a:Int),.int .i64 (d:Int),.int .i64 0,.int .i64 0,.int .i64 0],?_,?_,T1.out.below⟩
     ·show _=Ending.returned (.tuple #[_,.int .i64 (Zac (Zv L a) ws:Int)])
      rw[HE.out];rfl
     ·show RPv r K L (if Zac (Zv L a) ws=0 then _ else _) _
      rw[if_pos HE.out];exact RPv.mkOk M1 M2 M4
end Go.Proofs.YtljdgdphldckhaaGreat
