/-
  No conditions but those that each theorem names.
-/
import Derived.Deep.QuietTactic
import Derived.BigQuiet
import Derived.RegionTactic
import Derived.IntWalk
import Derived.Test.YtljdgdphldckhaaGreatQU35
set_option maxRecDepth 20000
set_option maxHeartbeats 12800000
namespace Go.Proofs.YtljdgdphldckhaaGreat
open Go Go.RowKit Go.Great
set_option linter.unusedSimpArgs false
set_option linter.unusedVariables false
section
variable {w x y:World} {bs:List Bk} {rs:List Rw} {ts:List (Ds×List Value)}
theorem Env.ret2(h:Env w bs rs ts x)(i j:Nat){g3 g4:Nat}{t3 t4:TypeId}{o3 o4 vs us:List Value}(hi:bs[i]?=some (g3,t3,o3))(hj:bs[j]?=some (g4,t4,o4))(p:Ret2 x y g3 g4 t3 t4 vs us) :
   (∀ u ∈ ts,Zu (fun k=>w.heap.size≤k) y u.1 u.2)∧Below w.heap.size w y:=
 ⟨fun u hu=>(h.deep u hu).keeps p.keeps fun k _ hn=>⟨fun e=>by
    rcases e with e | e
    ·exact hn.2.1 _ (List.mem_of_getElem? hi) e.symm
    ·exact hn.2.1 _ (List.mem_of_getElem? hj) e.symm,hn.1⟩,
   h.below.trans (p.keeps.below h.below.size fun k e=>by
    rcases e with e | e
    ·rw[e];exact h.lo _ (List.mem_of_getElem? hi)
    ·rw[e];exact h.lo _ (List.mem_of_getElem? hj))⟩
end
open Go.ChangeShapes Go.WideShapes Go.ChangeAt Go.RowKit
theorem z_P:(Tryz.prog.info? 82).map (fun i=>i.zero.map Value.cells)=some (some ([.slice none 0 0,.int .i64 0,.int .i64 0,.int .i64 0,.int .i64 0,.int .i64 0]:List Value).toArray):=by kernel_rfl
theorem z_C:(Tryz.prog.info? 80).map (fun i=>i.zero.map Value.cells)=some (some ([.slice none 0 0,.int .i64 0,.int .i64 0]:List Value).toArray):=by kernel_rfl
theorem z_F:(Tryz.prog.info? 29).map (fun i=>i.zero.map Value.cells)=some (some ([.int .i64 0,.int .i64 0,.int .i64 0]:List Value).toArray):=by kernel_rfl
theorem z_T:(Tryz.prog.info? 48).map (fun i=>i.zero.map Value.cells)=some (some ([.int .i64 0,.int .i64 0]:List Value).toArray):=by kernel_rfl
theorem qmayB(w:World)(r K G:Nat)(L:List TokV)(st:St)(vs:List Value)(ws:List ByteArray)(n m:Nat)(cs:Array Value)(hcs:cs=(ws.map Value.string).toArray)(hG:G=w.heap.size)(ho:Ya w r K L)(hp:RPv r K L st vs)(hn:n=ws.length)(hl:n≤64) :
  Calls Tryz.prog 47 #[.agg vs.toArray,.slice (some ⟨G,0,none⟩) n m] (w.alloc (.cells cs 9)) (PVo w r K L (Yu L ws st) (.int .i64 (Zj L ws st))):=by
 subst hcs hG;have nb:=Zh w (.cells (ws.map Value.string).toArray 9);refine(qmay _ r K L st vs ws w.heap.size n m (ho.below nb) hp (Zd.made w _ _) hn hl).mono ?_;rintro e w' ⟨v,h1,h2,h3⟩;exact⟨v,h1,h2,Ul nb h3⟩
theorem qmust(w:World)(r K:Nat)(L:List TokV)(st:St)(vs:List Value)(ws:List ByteArray)(g n m:Nat)(ho:Ya w r K L)(hp:RPv r K L st vs)(hw:Zoe w g ws)(hn:n=ws.length)(hl:n≤64) :
  Calls Tryz.prog 103 #[.agg vs.toArray,.slice (some ⟨g,0,none⟩) n m] w (PVo w r K L (Zm L ws st) (.int .i64 (Zj L ws st))):=by
 have T0:=Hh (Env.start w);by_cases hz:Zj L ws st=0
 ·have e1:Zm L ws st=Zhi L (Yu L ws st):=by unfold Zm;rw[if_pos hz,Zbj L hz]
  have e2:((Zj L ws st:Int) == 0)=true:=by rw[hz];rfl
  have e3:Value.int .i64 (Zj L ws st:Int)=.int .i64 0:=by rw[hz];rfl
  have E1:=Hh e1;have E3:=Hh e3;have HZ:=Hh (And.intro hw hn);clear e1 e3 hz hn;go_enter Tryz.func103,Tryz.ntmps103;go_wp2_with(first
 |((with_reducible refine Ze 2 ?_);refine Zk T0.out 82 _ (vs) rfl rfl rfl ?_;intro w1 g0 t1
   have T1:=Hh (t1);clear t1)
 |((with_reducible refine Ze 4 ?_);refine Zc T1.out 82 _ rfl rfl z_P ?_;intro w2 g1 t2
   have T2:=Hh (t2);clear t2)
 |((with_reducible refine Ze 9 ?_);refine Zb 82 _ 82 g0 _ (T2.out.get 0 rfl) Zn (Zf hp.len) rfl rfl rfl ?_)
 |(go_at_call 47;refine(qmay _ r K L st vs ws g n m (ho.below T2.out.below) hp (Zd.below HZ.out.1 T2.out.below HZ.out.1.inside) HZ.out.2 hl).mono ?_;rintro e w3 ⟨v3,rfl,h3,b3⟩
   have T3:=Hh (T2.out.call b3);clear b3)
 |((with_reducible refine Ze 6 ?_);refine Zc T3.out 82 _ rfl rfl z_P ?_;intro w4 g2 t4
   have T4:=Hh (t4);clear t4)
 |((with_reducible refine Zi 6 12 ?_);refine Za 82 _ _ 82 g2 _ (v3) (T4.out.get 2 rfl) h3.len (Zf h3.len) h3.one rfl rfl rfl rfl rfl ?_
   intro w5 p5;have T5:=Hh (T4.out.put 2 rfl p5);clear p5)
 |((with_reducible refine Ze 16 ?_);refine Zb 82 _ 82 g2 _ (T5.out.get 2 rfl) Zn (Zf h3.len) rfl rfl rfl ?_)
 |(go_at_call 105;refine(qbad _ r K L _ v3 (ho.below T5.out.below) h3).mono ?_;rintro e w6 ⟨v6,rfl,h6,b6⟩
   have T6:=Hh (T5.out.call b6);clear b6)
 |((with_reducible refine Zi 4 17 ?_);refine Za 82 _ _ 82 g1 _ (v6) (T6.out.get 1 rfl) h6.len (Zf h6.len) h6.one rfl rfl rfl rfl rfl ?_
   intro w7 p7;have T7:Hid (Env w [(g0,82,vs),(g1,82,v6),(g2,82,v3)] [] [] w7):=Hh (T6.out.put 1 rfl p7);clear p7))
  refine Xm 4 82 5 82 _ _ _ rfl (T7.out.get 1 rfl) Zn (Zf h6.len) rfl rfl rfl ?_;rw[E1.out,E3.out];exact⟨v6,rfl,h6,T7.out.below⟩
 ·have e1:Zm L ws st=Yu L ws st:=by unfold Zm;rw[if_neg hz]
  have e2:((Zj L ws st:Int) == 0)=false:=by rw[beq_eq_false_iff_ne];omega
  have E1:=Hh e1;have HZ:=Hh (And.intro hw hn);clear e1 hz hn;go_enter Tryz.func103,Tryz.ntmps103;go_wp2_with(first
 |((with_reducible refine Ze 2 ?_);refine Zk T0.out 82 _ (vs) rfl rfl rfl ?_;intro w1 g0 t1
   have T1:=Hh (t1);clear t1)
 |((with_reducible refine Ze 4 ?_);refine Zc T1.out 82 _ rfl rfl z_P ?_;intro w2 g1 t2
   have T2:=Hh (t2);clear t2)
 |((with_reducible refine Ze 9 ?_);refine Zb 82 _ 82 g0 _ (T2.out.get 0 rfl) Zn (Zf hp.len) rfl rfl rfl ?_)
 |(go_at_call 47;refine(qmay _ r K L st vs ws g n m (ho.below T2.out.below) hp (Zd.below HZ.out.1 T2.out.below HZ.out.1.inside) HZ.out.2 hl).mono ?_;rintro e w3 ⟨v3,rfl,h3,b3⟩
   have T3:=Hh (T2.out.call b3);clear b3)
 |((with_reducible refine Ze 6 ?_);refine Zc T3.out 82 _ rfl rfl z_P ?_;intro w4 g2 t4
   have T4:=Hh (t4);clear t4)
 |((with_reducible refine Zi 6 12 ?_);refine Za 82 _ _ 82 g2 _ (v3) (T4.out.get 2 rfl) h3.len (Zf h3.len) h3.one rfl rfl rfl rfl rfl ?_
   intro w5 p5;have T5:=Hh (T4.out.put 2 rfl p5);clear p5)
 |((with_reducible refine Ze 18 ?_);refine Zb 82 _ 82 g2 _ (T5.out.get 2 rfl) Zn (Zf h3.len) rfl rfl rfl ?_)
 |((with_reducible refine Zi 4 18 ?_);refine Za 82 _ _ 82 g1 _ (v3) (T5.out.get 1 rfl) h3.len (Zf h3.len) h3.one rfl rfl rfl rfl rfl ?_
   intro w6 p6;have T6:Hid (Env w [(g0,82,vs),(g1,82,v3),(g2,82,v3)] [] [] w6):=Hh (T5.out.put 1 rfl p6);clear p6))
  refine Xm 4 82 5 82 _ _ _ rfl (T6.out.get 1 rfl) Zn (Zf h3.len) rfl rfl rfl ?_;rw[E1.out];exact⟨v3,rfl,h3,T6.out.below⟩
theorem Zfo(w:World)(r K G:Nat)(L:List TokV)(st:St)(vs:List Value)(ws:List ByteArray)(n m:Nat)(cs:Array Value)(hcs:cs=(ws.map Value.string).toArray)(hG:G=w.heap.size)(ho:Ya w r K L)(hp:RPv r K L st vs)(hn:n=ws.length)(hl:n≤64) :
  Calls Tryz.prog 103 #[.agg vs.toArray,.slice (some ⟨G,0,none⟩) n m] (w.alloc (.cells cs 9)) (PVo w r K L (Zm L ws st) (.int .i64 (Zj L ws st))):=by
 subst hcs hG;have nb:=Zh w (.cells (ws.map Value.string).toArray 9);refine(qmust _ r K L st vs ws w.heap.size n m (ho.below nb) hp (Zd.made w _ _) hn hl).mono ?_;rintro e w' ⟨v,h1,h2,h3⟩;exact⟨v,h1,h2,Ul nb h3⟩
theorem one_want(L:List TokV)(t:ByteArray)(st:St):Zm L [t] st=Yw L t st:=by
 cases st with
 |bad F=>rfl
 |ok a d=>
  unfold Zm Yw;show(if Zac (Zv L a) [t]=0 then _ else if Zac (Zv L a) [t]=0 then _ else _)=if isT (Zv L a) t=true then St.ok (Zbq L a t) d else _
  unfold Zac Zac Zbq;by_cases h:isT (Zv L a) t=true
  ·simp[h]
  ·simp[h]
theorem kindA_in{L:List TokV}(h:Zmn L){a:Nat}(ha:a<L.length)(k:Int):Vs L a k<L.length:=by
 unfold Vs;split
 ·exact h.on ha
 ·exact ha
theorem signA_in{L:List TokV}(h:Zmn L){a:Nat}(ha:a<L.length):Zdv L a<L.length:=by
 unfold Zdv;split
 ·split
  ·exact h.on (h.on ha)
  ·exact ha
 ·exact kindA_in h ha 2
theorem Zmg(L:List TokV)(a:Nat)(k:Int)(h:(We L a k).1=0):We L a k=okF:=by
 unfold We at *;split
 ·rfl
 ·rename_i hk
  rw[if_neg hk]at h;exact absurd h (Zfm _)
theorem signF_ok(L:List TokV)(a:Nat)(h:(Zbd L a).1=0):Zbd L a=okF:=by
 unfold Zbd at *;split
 ·rename_i hk
  rw[if_pos hk]at h;exact Zmg _ _ _ h
 ·rename_i hk
  rw[if_neg hk]at h;exact Zmg _ _ _ h
theorem downF_ok(L:List TokV)(a d:Nat)(h:(Uu L a d).1=0):Uu L a d=okF:=by
 unfold Uu at *;split
 ·rename_i hk
  rw[if_pos hk]at h;exact absurd h (by simp)
 ·rfl
theorem RPv.note{r K:Nat}{L:List TokV}{a d n:Nat}{F:Int×Nat×Nat}(hF:F.1=0→F=okF)(hn:n=L.length)(ha:a<L.length)(hd:d≤8) :
  RPv r K L (Uh F (.ok a d)) [.slice (some ⟨r,0,none⟩) n K,.int .i64 (a:Int),.int .i64 (d:Int),.int .i64 F.1,.int .i64 (F.2.1:Int),.int .i64 (F.2.2:Int)]:=by
 show RPv r K L (if F.1=0 then St.ok a d else .bad F) _;by_cases h:F.1=0
 ·rw[if_pos h,hF h]
  exact RPv.mkOk hn ha hd
 ·rw[if_neg h]
  exact RPv.mkBad _ _ _ _ _ hd h
theorem Env.ne{w x:World}{bs:List Bk}{rs:List Rw}{ts:List (Ds×List Value)}(h:Env w bs rs ts x)(i j:Nat)(hij:i≠j){b c:Bk}(hi:bs[i]?=some b)(hj:bs[j]?=some c):b.1≠c.1:=by
 obtain⟨h1,e1⟩:=List.getElem?_eq_some_iff.1 hi;obtain⟨h2,e2⟩:=List.getElem?_eq_some_iff.1 hj;have hp:=List.pairwise_iff_getElem.1 h.nod;have g1:(bs.map (·.1))[i]'(by simpa using h1)=b.1:=by simp[e1]
 have g2:(bs.map (·.1))[j]'(by simpa using h2)=c.1:=by simp[e2]
 intro e;rcases Nat.lt_trichotomy i j with q | q | q
 ·exact hp i j _ _ q (by rw[g1,g2,e])
 ·exact hij q
 ·exact hp j i _ _ q (by rw[g1,g2,e])
theorem Zcs(w:World)(r K:Nat)(L:List TokV)(st:St)(vs:List Value)(t:ByteArray)(ho:Ya w r K L)(hp:RPv r K L st vs) :
  Calls Tryz.prog 50 #[.agg vs.toArray,.string t] w (PPo w r K L (Yw L t st)):=by
 have T0:=Hh (Env.start w);go_enter Tryz.func50,Tryz.ntmps50;go_wp2_with(first
 |((with_reducible refine Ze 2 ?_);refine Zk T0.out 82 _ (vs) rfl rfl rfl ?_;intro w1 g0 t1
   have T1:=Hh (t1);clear t1)
 |((with_reducible refine Ze 4 ?_);refine Zc T1.out 82 _ rfl rfl z_P ?_;intro w2 g1 t2
   have T2:=Hh (t2);clear t2)
 |((with_reducible refine Ze 8 ?_);refine Zb 82 _ 82 g0 _ (T2.out.get 0 rfl) Zn (Zf hp.len) rfl rfl rfl ?_)
 |(go_at_call 103;refine(Zfo _ r K _ L st vs [t] 1 1 _ rfl rfl (ho.below T2.out.below) hp rfl (by decide)).mono ?_;rintro e w3 ⟨v3,rfl,h3,b3⟩
   have T3:=Hh (T2.out.call b3);clear b3)
 |((with_reducible refine Ze 5 ?_);refine Zc T3.out 82 _ rfl rfl z_P ?_;intro w4 g2 t4
   have T4:=Hh (t4);clear t4)
 |((with_reducible refine Zi 5 12 ?_);refine Za 82 _ _ 82 g2 _ (v3) (T4.out.get 2 rfl) h3.len (Zf h3.len) h3.one rfl rfl rfl rfl rfl ?_
   intro w5 p5;have T5:=Hh (T4.out.put 2 rfl p5);clear p5)
 |((with_reducible refine Ze 14 ?_);refine Zb 82 _ 82 g2 _ (T5.out.get 2 rfl) Zn (Zf h3.len) rfl rfl rfl ?_)
 |((with_reducible refine Zi 4 14 ?_);refine Za 82 _ _ 82 g1 _ (v3) (T5.out.get 1 rfl) h3.len (Zf h3.len) h3.one rfl rfl rfl rfl rfl ?_
   intro w6 p6;have T6:Hid (Env w [(g0,82,vs),(g1,82,v3),(g2,82,v3)] [] [] w6):=Hh (T5.out.put 1 rfl p6);clear p6))
 refine Wp 4 82 82 _ _ rfl (T6.out.get 1 rfl) Zn (Zf h3.len) rfl rfl ?_;rw[←one_want];exact⟨v3,rfl,h3,T6.out.below⟩
theorem Zkv(w:World)(r K:Nat)(L:List TokV)(st:St)(vs:List Value)(ho:Ya w r K L)(hp:RPv r K L st vs) :
  Calls Tryz.prog 156 #[.agg vs.toArray] w (PVo w r K L (Zm L Zg st) (.int .i64 (Zj L Zg st))):=by
 have T0:=Hh (Env.start w);go_enter Tryz.func156,Tryz.ntmps156;go_wp2_with(first
 |((with_reducible refine Ze 1 ?_);refine Zk T0.out 82 _ (vs) rfl rfl rfl ?_;intro w1 g0 t1
   have T1:=Hh (t1);clear t1)
 |((with_reducible refine Ze 2 ?_);refine Zc T1.out 82 _ rfl rfl z_P ?_;intro w2 g1 t2
   have T2:=Hh (t2);clear t2)
 |((with_reducible refine Ze 4 ?_);refine Zb 82 _ 82 g0 _ (T2.out.get 0 rfl) Zn (Zf hp.len) rfl rfl rfl ?_)
 |(go_at_call 103;refine(Zfo _ r K _ L st vs Zg 3 3 _ rfl rfl (ho.below T2.out.below) hp rfl (by decide)).mono ?_;rintro e w3 ⟨v3,rfl,h3,b3⟩
   have T3:=Hh (T2.out.call b3);clear b3)
 |((with_reducible refine Zi 2 7 ?_);refine Za 82 _ _ 82 g1 _ (v3) (T3.out.get 1 rfl) h3.len (Zf h3.len) h3.one rfl rfl rfl rfl rfl ?_
   intro w4 p4;have T4:Hid (Env w [(g0,82,vs),(g1,82,v3)] [] [] w4):=Hh (T3.out.put 1 rfl p4);clear p4))
 exact Xm 2 82 3 82 _ _ _ rfl (T4.out.get 1 rfl) Zn (Zf h3.len) rfl rfl rfl ⟨v3,rfl,h3,T4.out.below⟩
theorem qop(w:World)(r K:Nat)(L:List TokV)(st:St)(vs:List Value)(ho:Ya w r K L)(hp:RPv r K L st vs) :
  Calls Tryz.prog 158 #[.agg vs.toArray] w (PVo w r K L (Zm L wOp st) (.int .i64 (Zj L wOp st))):=by
 have T0:=Hh (Env.start w);go_enter Tryz.func158,Tryz.ntmps158;go_wp2_with(first
 |((with_reducible refine Ze 1 ?_);refine Zk T0.out 82 _ (vs) rfl rfl rfl ?_;intro w1 g0 t1
   have T1:=Hh (t1);clear t1)
 |((with_reducible refine Ze 2 ?_);refine Zc T1.out 82 _ rfl rfl z_P ?_;intro w2 g1 t2
   have T2:=Hh (t2);clear t2)
 |((with_reducible refine Ze 4 ?_);refine Zb 82 _ 82 g0 _ (T2.out.get 0 rfl) Zn (Zf hp.len) rfl rfl rfl ?_)
 |(go_at_call 103;refine(Zfo _ r K _ L st vs wOp 6 6 _ rfl rfl (ho.below T2.out.below) hp rfl (by decide)).mono ?_;rintro e w3 ⟨v3,rfl,h3,b3⟩
   have T3:=Hh (T2.out.call b3);clear b3)
 |((with_reducible refine Zi 2 7 ?_);refine Za 82 _ _ 82 g1 _ (v3) (T3.out.get 1 rfl) h3.len (Zf h3.len) h3.one rfl rfl rfl rfl rfl ?_
   intro w4 p4;have T4:Hid (Env w [(g0,82,vs),(g1,82,v3)] [] [] w4):=Hh (T3.out.put 1 rfl p4);clear p4))
 exact Xm 2 82 3 82 _ _ _ rfl (T4.out.get 1 rfl) Zn (Zf h3.len) rfl rfl rfl ⟨v3,rfl,h3,T4.out.below⟩
theorem qnumber(w:World)(r K:Nat)(L:List TokV)(st:St)(vs:List Value)(ho:Ya w r K L)(hp:RPv r K L st vs) :
  Calls Tryz.prog 49 #[.agg vs.toArray] w (PVo w r K L (Zcu L st) (.int .i64 (Zfz L st))):=by
 have T0:=Hh (Env.start w);cases st with
 |ok a d=>
  obtain⟨n,hn,rfl,ha,hd⟩:=hp.ok;have hrow:=ho (by omega);have HR:=Hh hrow;have HN:=Hh (And.intro hn ha);clear ho hp hn;go_enter Tryz.func49,Tryz.ntmps49;go_wp2_with(first
 |((with_reducible refine Ze 1 ?_);refine Zk T0.out 82 _ ([.slice (some ⟨r,0,none⟩) n K,.int .i64 (a:Int),.int .i64 (d:Int),.int .i64 0,.int .i64 0,.int .i64 0]) rfl rfl rfl ?_;intro w1 g0 t1
   have T1:=Hh (t1);clear t1)
 |((with_reducible refine Ze 2 ?_);refine Zc T1.out 82 _ rfl rfl z_P ?_;intro w2 g1 t2
   have T2:=Hh (t2);obtain⟨c0,c1,c2,c3,c4,c5⟩:=Wq (T2.out.get 0 rfl);clear t2)
 |((with_reducible refine Ze 14 ?_);refine Vq 80 _ 82 g0 0 ([]) ([.slice (some ⟨r,0,none⟩) n K,.int .i64 (a:Int),.int .i64 (d:Int)]) ([.int .i64 0,.int .i64 0,.int .i64 0]) (T2.out.get 0 rfl) rfl Zfs Vz rfl rfl rfl ?_)
 |(go_at_call 102;refine(qInt _ r K L n a d HN.out.1 (HR.out.below T2.out.below) HN.out.2).mono ?_;rintro e w3 ⟨rfl,b3⟩
   have T3:=Hh (T2.out.call b3);clear b3)
 |((with_reducible refine Ze 4 ?_);refine Zc T3.out 80 _ rfl rfl z_C ?_;intro w4 g2 t4
   have T4:=Hh (t4);clear t4)
 |((with_reducible refine Ze 6 ?_);refine Zc T4.out 29 _ rfl rfl z_F ?_;intro w5 g3 t5
   have T5:=Hh (t5);clear t5)
 |((with_reducible refine Zi 4 16 ?_);refine Za 80 _ _ 80 g2 _ ([.slice (some ⟨r,0,none⟩) n K,.int .i64 (Vs L a 2:Int),.int .i64 (d:Int)]) (T5.out.get 2 rfl) rfl Vz (by simp[Value.oneCell']) rfl rfl rfl rfl rfl ?_
   intro w6 p6;have T6:=Hh (T5.out.put 2 rfl p6);clear p6)
 |((with_reducible refine Zi 6 18 ?_);refine Za 29 _ _ 29 g3 _ ([.int .i64 (We L a 2).1,.int .i64 ((We L a 2).2.1:Int),.int .i64 ((We L a 2).2.2:Int)]) (T6.out.get 3 rfl) rfl Wt (by simp[Value.oneCell']) rfl rfl rfl rfl rfl ?_
   intro w7 p7;have T7:=Hh (T6.out.put 3 rfl p7);clear p7)
 |((with_reducible refine Ze 19 ?_);refine Zb 80 _ 80 g2 _ (T7.out.get 2 rfl) Zfs Vz rfl rfl rfl ?_)
 |((with_reducible refine Ze 20 ?_);refine Zb 29 _ 29 g3 _ (T7.out.get 3 rfl) Zbu Wt rfl rfl rfl ?_)
 |((with_reducible refine Zi 2 21 ?_);refine Za 82 _ _ 82 g1 _ ([.slice (some ⟨r,0,none⟩) n K,.int .i64 (Vs L a 2:Int),.int .i64 (d:Int),.int .i64 (We L a 2).1,.int .i64 ((We L a 2).2.1:Int),.int .i64 ((We L a 2).2.2:Int)]) (T7.out.get 1 rfl) rfl Yg (by simp[Value.oneCell']) rfl rfl rfl rfl rfl ?_
   intro w8 p8;have T8:Hid (Env w [(g0,82,[.slice (some ⟨r,0,none⟩) n K,.int .i64 (a:Int),.int .i64 (d:Int),.int .i64 0,.int .i64 0,.int .i64 0]),(g1,82,[.slice (some ⟨r,0,none⟩) n K,.int .i64 (Vs L a 2:Int),.int .i64 (d:Int),.int .i64 (We L a 2).1,.int .i64 ((We L a 2).2.1:Int),.int .i64 ((We L a 2).2.2:Int)]),(g2,80,[.slice (some ⟨r,0,none⟩) n K,.int .i64 (Vs L a 2:Int),.int .i64 (d:Int)]),(g3,29,[.int .i64 (We L a 2).1,.int .i64 ((We L a 2).2.1:Int),.int .i64 ((We L a 2).2.2:Int)])] [] [] w8):=Hh (T7.out.put 1 rfl p8);clear p8))
  exact Xm 2 82 3 82 _ _ _ rfl (T8.out.get 1 rfl) Zn Yg rfl rfl rfl ⟨_,rfl,RPv.note (Zmg L a 2) HN.out.1 (kindA_in HR.out.ends HN.out.2 2) hd,T8.out.below⟩
 |bad F=>
  obtain⟨A,n,k,a,d,rfl,hd,hF⟩:=hp.bad;obtain⟨f0,f1,f2⟩:=F;have z0:(f0 != 0)=true:=by rw[bne_iff_ne];exact hF
  have HF:=Hh hF;clear ho hp hF;go_enter Tryz.func49,Tryz.ntmps49;go_wp2_with(first
 |((with_reducible refine Ze 1 ?_);refine Zk T0.out 82 _ ([.slice A n k,.int .i64 (a:Int),.int .i64 (d:Int),.int .i64 f0,.int .i64 (f1:Int),.int .i64 (f2:Int)]) rfl rfl rfl ?_;intro w1 g0 t1
   have T1:=Hh (t1);clear t1)
 |((with_reducible refine Ze 2 ?_);refine Zc T1.out 82 _ rfl rfl z_P ?_;intro w2 g1 t2
   have T2:=Hh (t2);obtain⟨c0,c1,c2,c3,c4,c5⟩:=Wq (T2.out.get 0 rfl);clear t2)
 |((with_reducible refine Ze 11 ?_);refine Zb 82 _ 82 g0 _ (T2.out.get 0 rfl) Zn Yg rfl rfl rfl ?_)
 |((with_reducible refine Zi 2 11 ?_);refine Za 82 _ _ 82 g1 _ ([.slice A n k,.int .i64 (a:Int),.int .i64 (d:Int),.int .i64 f0,.int .i64 (f1:Int),.int .i64 (f2:Int)]) (T2.out.get 1 rfl) rfl Yg (by simp[Value.oneCell']) rfl rfl rfl rfl rfl ?_
   intro w3 p3;have T3:Hid (Env w [(g0,82,[.slice A n k,.int .i64 (a:Int),.int .i64 (d:Int),.int .i64 f0,.int .i64 (f1:Int),.int .i64 (f2:Int)]),(g1,82,[.slice A n k,.int .i64 (a:Int),.int .i64 (d:Int),.int .i64 f0,.int .i64 (f1:Int),.int .i64 (f2:Int)])] [] [] w3):=Hh (T2.out.put 1 rfl p3);clear p3))
  exact Xm 2 82 3 82 _ _ _ rfl (T3.out.get 1 rfl) Zn Yg rfl rfl rfl ⟨_,rfl,RPv.mkBad (F:=(f0,f1,f2)) _ _ _ _ _ hd HF.out,T3.out.below⟩
theorem Zon(w:World)(r K:Nat)(L:List TokV)(st:St)(vs:List Value)(ho:Ya w r K L)(hp:RPv r K L st vs) :
  Calls Tryz.prog 51 #[.agg vs.toArray] w (PVo w r K L (Zal L st) (.int .i64 (Zbt L st))):=by
 have T0:=Hh (Env.start w);cases st with
 |ok a d=>
  obtain⟨n,hn,rfl,ha,hd⟩:=hp.ok;have hrow:=ho (by omega);have HR:=Hh hrow;have HN:=Hh (And.intro hn ha);clear ho hp hn;go_enter Tryz.func51,Tryz.ntmps51;go_wp2_with(first
 |((with_reducible refine Ze 1 ?_);refine Zk T0.out 82 _ ([.slice (some ⟨r,0,none⟩) n K,.int .i64 (a:Int),.int .i64 (d:Int),.int .i64 0,.int .i64 0,.int .i64 0]) rfl rfl rfl ?_;intro w1 g0 t1
   have T1:=Hh (t1);clear t1)
 |((with_reducible refine Ze 2 ?_);refine Zc T1.out 82 _ rfl rfl z_P ?_;intro w2 g1 t2
   have T2:=Hh (t2);obtain⟨c0,c1,c2,c3,c4,c5⟩:=Wq (T2.out.get 0 rfl);clear t2)
 |((with_reducible refine Ze 14 ?_);refine Vq 80 _ 82 g0 0 ([]) ([.slice (some ⟨r,0,none⟩) n K,.int .i64 (a:Int),.int .i64 (d:Int)]) ([.int .i64 0,.int .i64 0,.int .i64 0]) (T2.out.get 0 rfl) rfl Zfs Vz rfl rfl rfl ?_)
 |(go_at_call 104;refine(qSigned _ r K L n a d HN.out.1 (HR.out.below T2.out.below) HN.out.2).mono ?_;rintro e w3 ⟨rfl,b3⟩
   have T3:=Hh (T2.out.call b3);clear b3)
 |((with_reducible refine Ze 4 ?_);refine Zc T3.out 80 _ rfl rfl z_C ?_;intro w4 g2 t4
   have T4:=Hh (t4);clear t4)
 |((with_reducible refine Ze 6 ?_);refine Zc T4.out 29 _ rfl rfl z_F ?_;intro w5 g3 t5
   have T5:=Hh (t5);clear t5)
 |((with_reducible refine Zi 4 16 ?_);refine Za 80 _ _ 80 g2 _ ([.slice (some ⟨r,0,none⟩) n K,.int .i64 (Zdv L a:Int),.int .i64 (d:Int)]) (T5.out.get 2 rfl) rfl Vz (by simp[Value.oneCell']) rfl rfl rfl rfl rfl ?_
   intro w6 p6;have T6:=Hh (T5.out.put 2 rfl p6);clear p6)
 |((with_reducible refine Zi 6 18 ?_);refine Za 29 _ _ 29 g3 _ ([.int .i64 (Zbd L a).1,.int .i64 ((Zbd L a).2.1:Int),.int .i64 ((Zbd L a).2.2:Int)]) (T6.out.get 3 rfl) rfl Wt (by simp[Value.oneCell']) rfl rfl rfl rfl rfl ?_
   intro w7 p7;have T7:=Hh (T6.out.put 3 rfl p7);clear p7)
 |((with_reducible refine Ze 19 ?_);refine Zb 80 _ 80 g2 _ (T7.out.get 2 rfl) Zfs Vz rfl rfl rfl ?_)
 |((with_reducible refine Ze 20 ?_);refine Zb 29 _ 29 g3 _ (T7.out.get 3 rfl) Zbu Wt rfl rfl rfl ?_)
 |((with_reducible refine Zi 2 21 ?_);refine Za 82 _ _ 82 g1 _ ([.slice (some ⟨r,0,none⟩) n K,.int .i64 (Zdv L a:Int),.int .i64 (d:Int),.int .i64 (Zbd L a).1,.int .i64 ((Zbd L a).2.1:Int),.int .i64 ((Zbd L a).2.2:Int)]) (T7.out.get 1 rfl) rfl Yg (by simp[Value.oneCell']) rfl rfl rfl rfl rfl ?_
   intro w8 p8;have T8:Hid (Env w [(g0,82,[.slice (some ⟨r,0,none⟩) n K,.int .i64 (a:Int),.int .i64 (d:Int),.int .i64 0,.int .i64 0,.int .i64 0]),(g1,82,[.slice (some ⟨r,0,none⟩) n K,.int .i64 (Zdv L a:Int),.int .i64 (d:Int),.int .i64 (Zbd L a).1,.int .i64 ((Zbd L a).2.1:Int),.int .i64 ((Zbd L a).2.2:Int)]),(g2,80,[.slice (some ⟨r,0,none⟩) n K,.int .i64 (Zdv L a:Int),.int .i64 (d:Int)]),(g3,29,[.int .i64 (Zbd L a).1,.int .i64 ((Zbd L a).2.1:Int),.int .i64 ((Zbd L a).2.2:Int)])] [] [] w8):=Hh (T7.out.put 1 rfl p8);clear p8))
  exact Xm 2 82 3 82 _ _ _ rfl (T8.out.get 1 rfl) Zn Yg rfl rfl rfl ⟨_,rfl,RPv.note (signF_ok L a) HN.out.1 (signA_in HR.out.ends HN.out.2) hd,T8.out.below⟩
 |bad F=>
  obtain⟨A,n,k,a,d,rfl,hd,hF⟩:=hp.bad;obtain⟨f0,f1,f2⟩:=F;have z0:(f0 != 0)=true:=by rw[bne_iff_ne];exact hF
  have HF:=Hh hF;clear ho hp hF;go_enter Tryz.func51,Tryz.ntmps51;go_wp2_with(first
 |((with_reducible refine Ze 1 ?_);refine Zk T0.out 82 _ ([.slice A n k,.int .i64 (a:Int),.int .i64 (d:Int),.int .i64 f0,.int .i64 (f1:Int),.int .i64 (f2:Int)]) rfl rfl rfl ?_;intro w1 g0 t1
   have T1:=Hh (t1);clear t1)
 |((with_reducible refine Ze 2 ?_);refine Zc T1.out 82 _ rfl rfl z_P ?_;intro w2 g1 t2
   have T2:=Hh (t2);obtain⟨c0,c1,c2,c3,c4,c5⟩:=Wq (T2.out.get 0 rfl);clear t2)
 |((with_reducible refine Ze 11 ?_);refine Zb 82 _ 82 g0 _ (T2.out.get 0 rfl) Zn Yg rfl rfl rfl ?_)
 |((with_reducible refine Zi 2 11 ?_);refine Za 82 _ _ 82 g1 _ ([.slice A n k,.int .i64 (a:Int),.int .i64 (d:Int),.int .i64 f0,.int .i64 (f1:Int),.int .i64 (f2:Int)]) (T2.out.get 1 rfl) rfl Yg (by simp[Value.oneCell']) rfl rfl rfl rfl rfl ?_
   intro w3 p3;have T3:Hid (Env w [(g0,82,[.slice A n k,.int .i64 (a:Int),.int .i64 (d:Int),.int .i64 f0,.int .i64 (f1:Int),.int .i64 (f2:Int)]),(g1,82,[.slice A n k,.int .i64 (a:Int),.int .i64 (d:Int),.int .i64 f0,.int .i64 (f1:Int),.int .i64 (f2:Int)])] [] [] w3):=Hh (T2.out.put 1 rfl p3);clear p3))
  exact Xm 2 82 3 82 _ _ _ rfl (T3.out.get 1 rfl) Zn Yg rfl rfl rfl ⟨_,rfl,RPv.mkBad (F:=(f0,f1,f2)) _ _ _ _ _ hd HF.out,T3.out.below⟩
theorem qname(w:World)(r K:Nat)(L:List TokV)(st:St)(vs:List Value)(ho:Ya w r K L)(hp:RPv r K L st vs) :
  Calls Tryz.prog 48 #[.agg vs.toArray] w (PVo w r K L (Jt L st) (.string (Zfu L st))):=by
 have T0:=Hh (Env.start w);cases st with
 |ok a d=>
  obtain⟨n,hn,rfl,ha,hd⟩:=hp.ok;have hrow:=ho (by omega);have HR:=Hh hrow;have HN:=Hh (And.intro hn ha);clear ho hp hn;go_enter Tryz.func48,Tryz.ntmps48;go_wp2_with(first
 |((with_reducible refine Ze 1 ?_);refine Zk T0.out 82 _ ([.slice (some ⟨r,0,none⟩) n K,.int .i64 (a:Int),.int .i64 (d:Int),.int .i64 0,.int .i64 0,.int .i64 0]) rfl rfl rfl ?_;intro w1 g0 t1
   have T1:=Hh (t1);clear t1)
 |((with_reducible refine Ze 2 ?_);refine Zc T1.out 82 _ rfl rfl z_P ?_;intro w2 g1 t2
   have T2:=Hh (t2);obtain⟨c0,c1,c2,c3,c4,c5⟩:=Wq (T2.out.get 0 rfl);clear t2)
 |((with_reducible refine Ze 14 ?_);refine Vq 80 _ 82 g0 0 ([]) ([.slice (some ⟨r,0,none⟩) n K,.int .i64 (a:Int),.int .i64 (d:Int)]) ([.int .i64 0,.int .i64 0,.int .i64 0]) (T2.out.get 0 rfl) rfl Zfs Vz rfl rfl rfl ?_)
 |(go_at_call 101;refine(qName _ r K L n a d HN.out.1 (HR.out.below T2.out.below) HN.out.2).mono ?_;rintro e w3 ⟨rfl,b3⟩
   have T3:=Hh (T2.out.call b3);clear b3)
 |((with_reducible refine Ze 4 ?_);refine Zc T3.out 80 _ rfl rfl z_C ?_;intro w4 g2 t4
   have T4:=Hh (t4);clear t4)
 |((with_reducible refine Ze 6 ?_);refine Zc T4.out 29 _ rfl rfl z_F ?_;intro w5 g3 t5
   have T5:=Hh (t5);clear t5)
 |((with_reducible refine Zi 4 16 ?_);refine Za 80 _ _ 80 g2 _ ([.slice (some ⟨r,0,none⟩) n K,.int .i64 (Vs L a 3:Int),.int .i64 (d:Int)]) (T5.out.get 2 rfl) rfl Vz (by simp[Value.oneCell']) rfl rfl rfl rfl rfl ?_
   intro w6 p6;have T6:=Hh (T5.out.put 2 rfl p6);clear p6)
 |((with_reducible refine Zi 6 18 ?_);refine Za 29 _ _ 29 g3 _ ([.int .i64 (We L a 3).1,.int .i64 ((We L a 3).2.1:Int),.int .i64 ((We L a 3).2.2:Int)]) (T6.out.get 3 rfl) rfl Wt (by simp[Value.oneCell']) rfl rfl rfl rfl rfl ?_
   intro w7 p7;have T7:=Hh (T6.out.put 3 rfl p7);clear p7)
 |((with_reducible refine Ze 19 ?_);refine Zb 80 _ 80 g2 _ (T7.out.get 2 rfl) Zfs Vz rfl rfl rfl ?_)
 |((with_reducible refine Ze 20 ?_);refine Zb 29 _ 29 g3 _ (T7.out.get 3 rfl) Zbu Wt rfl rfl rfl ?_)
 |((with_reducible refine Zi 2 21 ?_);refine Za 82 _ _ 82 g1 _ ([.slice (some ⟨r,0,none⟩) n K,.int .i64 (Vs L a 3:Int),.int .i64 (d:Int),.int .i64 (We L a 3).1,.int .i64 ((We L a 3).2.1:Int),.int .i64 ((We L a 3).2.2:Int)]) (T7.out.get 1 rfl) rfl Yg (by simp[Value.oneCell']) rfl rfl rfl rfl rfl ?_
   intro w8 p8;have T8:Hid (Env w [(g0,82,[.slice (some ⟨r,0,none⟩) n K,.int .i64 (a:Int),.int .i64 (d:Int),.int .i64 0,.int .i64 0,.int .i64 0]),(g1,82,[.slice (some ⟨r,0,none⟩) n K,.int .i64 (Vs L a 3:Int),.int .i64 (d:Int),.int .i64 (We L a 3).1,.int .i64 ((We L a 3).2.1:Int),.int .i64 ((We L a 3).2.2:Int)]),(g2,80,[.slice (some ⟨r,0,none⟩) n K,.int .i64 (Vs L a 3:Int),.int .i64 (d:Int)]),(g3,29,[.int .i64 (We L a 3).1,.int .i64 ((We L a 3).2.1:Int),.int .i64 ((We L a 3).2.2:Int)])] [] [] w8):=Hh (T7.out.put 1 rfl p8);clear p8))
  exact Xm 2 82 3 82 _ _ _ rfl (T8.out.get 1 rfl) Zn Yg rfl rfl rfl ⟨_,rfl,RPv.note (Zmg L a 3) HN.out.1 (kindA_in HR.out.ends HN.out.2 3) hd,T8.out.below⟩
 |bad F=>
  obtain⟨A,n,k,a,d,rfl,hd,hF⟩:=hp.bad;obtain⟨f0,f1,f2⟩:=F;have z0:(f0 != 0)=true:=by rw[bne_iff_ne];exact hF
  have HF:=Hh hF;clear ho hp hF;go_enter Tryz.func48,Tryz.ntmps48;go_wp2_with(first
 |((with_reducible refine Ze 1 ?_);refine Zk T0.out 82 _ ([.slice A n k,.int .i64 (a:Int),.int .i64 (d:Int),.int .i64 f0,.int .i64 (f1:Int),.int .i64 (f2:Int)]) rfl rfl rfl ?_;intro w1 g0 t1
   have T1:=Hh (t1);clear t1)
 |((with_reducible refine Ze 2 ?_);refine Zc T1.out 82 _ rfl rfl z_P ?_;intro w2 g1 t2
   have T2:=Hh (t2);obtain⟨c0,c1,c2,c3,c4,c5⟩:=Wq (T2.out.get 0 rfl);clear t2)
 |((with_reducible refine Ze 11 ?_);refine Zb 82 _ 82 g0 _ (T2.out.get 0 rfl) Zn Yg rfl rfl rfl ?_)
 |((with_reducible refine Zi 2 11 ?_);refine Za 82 _ _ 82 g1 _ ([.slice A n k,.int .i64 (a:Int),.int .i64 (d:Int),.int .i64 f0,.int .i64 (f1:Int),.int .i64 (f2:Int)]) (T2.out.get 1 rfl) rfl Yg (by simp[Value.oneCell']) rfl rfl rfl rfl rfl ?_
   intro w3 p3;have T3:Hid (Env w [(g0,82,[.slice A n k,.int .i64 (a:Int),.int .i64 (d:Int),.int .i64 f0,.int .i64 (f1:Int),.int .i64 (f2:Int)]),(g1,82,[.slice A n k,.int .i64 (a:Int),.int .i64 (d:Int),.int .i64 f0,.int .i64 (f1:Int),.int .i64 (f2:Int)])] [] [] w3):=Hh (T2.out.put 1 rfl p3);clear p3))
  exact Xm 2 82 3 82 _ _ _ rfl (T3.out.get 1 rfl) Zn Yg rfl rfl rfl ⟨_,rfl,RPv.mkBad (F:=(f0,f1,f2)) _ _ _ _ _ hd HF.out,T3.out.below⟩
theorem qdeeper(w:World)(r K:Nat)(L:List TokV)(st:St)(vs:List Value)(ho:Ya w r K L)(hp:RPv r K L st vs) :
  Calls Tryz.prog 201 #[.agg vs.toArray] w (PPo w r K L (Uh (downV L st) (Zkq st))):=by
 have T0:=Hh (Env.start w);cases st with
 |ok a d=>
  obtain⟨n,hn,rfl,ha,hd⟩:=hp.ok;have hrow:=ho (by omega);have HR:=Hh hrow;have HN:=Hh (And.intro hn ha);have hdd:Zby d≤8:=by unfold Zby;split<;>omega
  have HD:=Hh hdd;clear ho hp hn hdd;go_enter Tryz.func201,Tryz.ntmps201;go_wp2_with(first
 |((with_reducible refine Ze 1 ?_);refine Zk T0.out 82 _ ([.slice (some ⟨r,0,none⟩) n K,.int .i64 (a:Int),.int .i64 (d:Int),.int .i64 0,.int .i64 0,.int .i64 0]) rfl rfl rfl ?_;intro w1 g0 t1
   have T1:=Hh (t1);clear t1)
 |((with_reducible refine Ze 2 ?_);refine Zc T1.out 82 _ rfl rfl z_P ?_;intro w2 g1 t2
   have T2:=Hh (t2);obtain⟨c0,c1,c2,c3,c4,c5⟩:=Wq (T2.out.get 0 rfl);clear t2)
 |((with_reducible refine Ze 12 ?_);refine Vq 80 _ 82 g0 0 ([]) ([.slice (some ⟨r,0,none⟩) n K,.int .i64 (a:Int),.int .i64 (d:Int)]) ([.int .i64 0,.int .i64 0,.int .i64 0]) (T2.out.get 0 rfl) rfl Zfs Vz rfl rfl rfl ?_)
 |(go_at_call 230;refine(qDown _ r K L n a d HN.out.1 (HR.out.below T2.out.below) HN.out.2 hd).mono ?_;rintro e w3 ⟨rfl,b3⟩
   have T3:=Hh (T2.out.call b3);clear b3)
 |((with_reducible refine Ze 3 ?_);refine Zc T3.out 80 _ rfl rfl z_C ?_;intro w4 g2 t4
   have T4:=Hh (t4);clear t4)
 |((with_reducible refine Ze 4 ?_);refine Zc T4.out 29 _ rfl rfl z_F ?_;intro w5 g3 t5
   have T5:=Hh (t5);clear t5)
 |((with_reducible refine Zi 3 14 ?_);refine Za 80 _ _ 80 g2 _ ([.slice (some ⟨r,0,none⟩) n K,.int .i64 (a:Int),.int .i64 (Zby d:Int)]) (T5.out.get 2 rfl) rfl Vz (by simp[Value.oneCell']) rfl rfl rfl rfl rfl ?_
   intro w6 p6;have T6:=Hh (T5.out.put 2 rfl p6);clear p6)
 |((with_reducible refine Zi 4 15 ?_);refine Za 29 _ _ 29 g3 _ ([.int .i64 (Uu L a d).1,.int .i64 ((Uu L a d).2.1:Int),.int .i64 ((Uu L a d).2.2:Int)]) (T6.out.get 3 rfl) rfl Wt (by simp[Value.oneCell']) rfl rfl rfl rfl rfl ?_
   intro w7 p7;have T7:=Hh (T6.out.put 3 rfl p7);clear p7)
 |((with_reducible refine Ze 16 ?_);refine Zb 80 _ 80 g2 _ (T7.out.get 2 rfl) Zfs Vz rfl rfl rfl ?_)
 |((with_reducible refine Ze 17 ?_);refine Zb 29 _ 29 g3 _ (T7.out.get 3 rfl) Zbu Wt rfl rfl rfl ?_)
 |((with_reducible refine Zi 2 18 ?_);refine Za 82 _ _ 82 g1 _ ([.slice (some ⟨r,0,none⟩) n K,.int .i64 (a:Int),.int .i64 (Zby d:Int),.int .i64 (Uu L a d).1,.int .i64 ((Uu L a d).2.1:Int),.int .i64 ((Uu L a d).2.2:Int)]) (T7.out.get 1 rfl) rfl Yg (by simp[Value.oneCell']) rfl rfl rfl rfl rfl ?_
   intro w8 p8;have T8:Hid (Env w [(g0,82,[.slice (some ⟨r,0,none⟩) n K,.int .i64 (a:Int),.int .i64 (d:Int),.int .i64 0,.int .i64 0,.int .i64 0]),(g1,82,[.slice (some ⟨r,0,none⟩) n K,.int .i64 (a:Int),.int .i64 (Zby d:Int),.int .i64 (Uu L a d).1,.int .i64 ((Uu L a d).2.1:Int),.int .i64 ((Uu L a d).2.2:Int)]),(g2,80,[.slice (some ⟨r,0,none⟩) n K,.int .i64 (a:Int),.int .i64 (Zby d:Int)]),(g3,29,[.int .i64 (Uu L a d).1,.int .i64 ((Uu L a d).2.1:Int),.int .i64 ((Uu L a d).2.2:Int)])] [] [] w8):=Hh (T7.out.put 1 rfl p8);clear p8))
  exact Wp 2 82 82 _ _ rfl (T8.out.get 1 rfl) Zn Yg rfl rfl ⟨_,rfl,RPv.note (downF_ok L a d) HN.out.1 HN.out.2 HD.out,T8.out.below⟩
 |bad F=>
  obtain⟨A,n,k,a,d,rfl,hd,hF⟩:=hp.bad;obtain⟨f0,f1,f2⟩:=F;have z0:(f0 != 0)=true:=by rw[bne_iff_ne];exact hF
  have HF:=Hh hF;clear ho hp hF;go_enter Tryz.func201,Tryz.ntmps201;go_wp2_with(first
 |((with_reducible refine Ze 1 ?_);refine Zk T0.out 82 _ ([.slice A n k,.int .i64 (a:Int),.int .i64 (d:Int),.int .i64 f0,.int .i64 (f1:Int),.int .i64 (f2:Int)]) rfl rfl rfl ?_;intro w1 g0 t1
   have T1:=Hh (t1);clear t1)
 |((with_reducible refine Ze 2 ?_);refine Zc T1.out 82 _ rfl rfl z_P ?_;intro w2 g1 t2
   have T2:=Hh (t2);obtain⟨c0,c1,c2,c3,c4,c5⟩:=Wq (T2.out.get 0 rfl);clear t2)
 |((with_reducible refine Ze 9 ?_);refine Zb 82 _ 82 g0 _ (T2.out.get 0 rfl) Zn Yg rfl rfl rfl ?_)
 |((with_reducible refine Zi 2 9 ?_);refine Za 82 _ _ 82 g1 _ ([.slice A n k,.int .i64 (a:Int),.int .i64 (d:Int),.int .i64 f0,.int .i64 (f1:Int),.int .i64 (f2:Int)]) (T2.out.get 1 rfl) rfl Yg (by simp[Value.oneCell']) rfl rfl rfl rfl rfl ?_
   intro w3 p3;have T3:Hid (Env w [(g0,82,[.slice A n k,.int .i64 (a:Int),.int .i64 (d:Int),.int .i64 f0,.int .i64 (f1:Int),.int .i64 (f2:Int)]),(g1,82,[.slice A n k,.int .i64 (a:Int),.int .i64 (d:Int),.int .i64 f0,.int .i64 (f1:Int),.int .i64 (f2:Int)])] [] [] w3):=Hh (T2.out.put 1 rfl p3);clear p3))
  exact Wp 2 82 82 _ _ rfl (T3.out.get 1 rfl) Zn Yg rfl rfl ⟨_,rfl,RPv.mkBad (F:=(f0,f1,f2)) _ _ _ _ _ hd HF.out,T3.out.below⟩
theorem mixed:(Tryz.prog).follows .mixedOrders=true:=by kernel_rfl
def PTo(w:World)(r K:Nat)(L:List TokV)(st:St)(ds:Ds)(e:Ending)(w':World):Prop:=
 ∃ vs us:List Value,e=.returned (.tuple #[.agg vs.toArray,.agg us.toArray])∧RPv r K L st vs∧Zu (fun k=>w.heap.size≤k) w' ds us∧Below w.heap.size w w'
theorem qover(w:World)(r K:Nat)(L:List TokV)(st:St)(vs:List Value)(ho:Ya w r K L)(hp:RPv r K L st vs) :
  Calls Tryz.prog 53 #[.agg vs.toArray] w (PPo w r K L (Xj L st)):=by
 have T0:=Hh (Env.start w);cases st with
 |ok a d=>
  obtain⟨n,hn,rfl,ha,hd⟩:=hp.ok;have hrow:=ho (by omega);have HR:=Hh hrow;have HN:=Hh (And.intro hn ha);have hfd:=fun w=>Zgd (Zv L a).k (Zv L a).n ((Zv L a).line:Int) ((Zv L a).col:Int) (Zv L a).t w
  clear ho hp hn;by_cases hk:(Zv L a).k=0
  · have e1:((Zv L a).k != 0)=false:=by rw[hk];rfl
    have e2:Xj L (.ok a d)=.ok a d:=if_pos hk;have E2:=Hh e2;clear e2 hk;go_enter Tryz.func53,Tryz.ntmps53;go_wp2_with(first
 |((with_reducible refine Ze 1 ?_);refine Zk T0.out 82 _ ([.slice (some ⟨r,0,none⟩) n K,.int .i64 (a:Int),.int .i64 (d:Int),.int .i64 0,.int .i64 0,.int .i64 0]) rfl rfl rfl ?_;intro w1 g0 t1
   have T1:=Hh (t1);clear t1)
 |((with_reducible refine Ze 2 ?_);refine Zc T1.out 82 _ rfl rfl z_P ?_;intro w2 g1 t2
   have T2:=Hh (t2);obtain⟨c0,c1,c2,c3,c4,c5⟩:=Wq (T2.out.get 0 rfl);clear t2)
 |(go_at_call 46;refine(Znt _ r K L n a d HN.out.1 (HR.out.below T2.out.below) HN.out.2).mono ?_;rintro e w3 ⟨rfl,b3⟩
   have T3:=Hh (T2.out.call b3);simp only[Vu];clear b3)
 |((with_reducible refine Ze 16 ?_);refine Zb 82 _ 82 g0 _ (T3.out.get 0 rfl) Zn Yg rfl rfl rfl ?_)
 |((with_reducible refine Zi 2 16 ?_);refine Za 82 _ _ 82 g1 _ ([.slice (some ⟨r,0,none⟩) n K,.int .i64 (a:Int),.int .i64 (d:Int),.int .i64 0,.int .i64 0,.int .i64 0]) (T3.out.get 1 rfl) rfl Yg (by simp[Value.oneCell']) rfl rfl rfl rfl rfl ?_
   intro w4 p4;have T4:Hid (Env w [(g0,82,[.slice (some ⟨r,0,none⟩) n K,.int .i64 (a:Int),.int .i64 (d:Int),.int .i64 0,.int .i64 0,.int .i64 0]),(g1,82,[.slice (some ⟨r,0,none⟩) n K,.int .i64 (a:Int),.int .i64 (d:Int),.int .i64 0,.int .i64 0,.int .i64 0])] [] [] w4):=Hh (T3.out.put 1 rfl p4)
   clear p4))
    refine Wp 2 82 82 _ _ rfl (T4.out.get 1 rfl) Zn Yg rfl rfl ?_;rw[E2.out];exact⟨_,rfl,RPv.mkOk HN.out.1 HN.out.2 hd,T4.out.below⟩
  · have e1:((Zv L a).k != 0)=true:=by rw[bne_iff_ne];exact hk
    have e2:Xj L (.ok a d)=Zhi L (.ok a d):=if_neg hk;have E2:=Hh e2;clear e2 hk;go_enter Tryz.func53,Tryz.ntmps53;go_wp2_with(first
 |((with_reducible refine Ze 1 ?_);refine Zk T0.out 82 _ ([.slice (some ⟨r,0,none⟩) n K,.int .i64 (a:Int),.int .i64 (d:Int),.int .i64 0,.int .i64 0,.int .i64 0]) rfl rfl rfl ?_;intro w1 g0 t1
   have T1:=Hh (t1);clear t1)
 |((with_reducible refine Ze 2 ?_);refine Zc T1.out 82 _ rfl rfl z_P ?_;intro w2 g1 t2
   have T2:=Hh (t2);obtain⟨c0,c1,c2,c3,c4,c5⟩:=Wq (T2.out.get 0 rfl);clear t2)
 |(go_at_call 46;refine(Znt _ r K L n a d HN.out.1 (HR.out.below T2.out.below) HN.out.2).mono ?_;rintro e w3 ⟨rfl,b3⟩
   have T3:=Hh (T2.out.call b3);simp only[Vu];clear b3)
 |((with_reducible refine Ze 14 ?_);refine Zb 82 _ 82 g0 _ (T3.out.get 0 rfl) Zn Yg rfl rfl rfl ?_)
 |(go_at_call 105;refine(qbad _ r K L (.ok a d) [.slice (some ⟨r,0,none⟩) n K,.int .i64 (a:Int),.int .i64 (d:Int),.int .i64 0,.int .i64 0,.int .i64 0] (fun _=>HR.out.below T3.out.below) (RPv.mkOk HN.out.1 HN.out.2 hd)).mono ?_;rintro e w4 ⟨v4,rfl,h4,b4⟩
   have T4:=Hh (T3.out.call b4);clear b4)
 |((with_reducible refine Zi 2 15 ?_);refine Za 82 _ _ 82 g1 _ (v4) (T4.out.get 1 rfl) h4.len (Zf h4.len) h4.one rfl rfl rfl rfl rfl ?_
   intro w5 p5;have T5:Hid (Env w [(g0,82,[.slice (some ⟨r,0,none⟩) n K,.int .i64 (a:Int),.int .i64 (d:Int),.int .i64 0,.int .i64 0,.int .i64 0]),(g1,82,v4)] [] [] w5):=Hh (T4.out.put 1 rfl p5)
   clear p5))
    refine Wp 2 82 82 _ _ rfl (T5.out.get 1 rfl) Zn (Zf h4.len) rfl rfl ?_;rw[E2.out];exact⟨v4,rfl,h4,T5.out.below⟩
 |bad F=>
  obtain⟨A,n,k,a,d,rfl,hd,hF⟩:=hp.bad;obtain⟨f0,f1,f2⟩:=F;have z0:(f0 == 0)=false:=by rw[beq_eq_false_iff_ne];exact hF
  have HF:=Hh hF;clear ho hp hF;go_enter Tryz.func53,Tryz.ntmps53;go_wp2_with(first
 |((with_reducible refine Ze 1 ?_);refine Zk T0.out 82 _ ([.slice A n k,.int .i64 (a:Int),.int .i64 (d:Int),.int .i64 f0,.int .i64 (f1:Int),.int .i64 (f2:Int)]) rfl rfl rfl ?_;intro w1 g0 t1
   have T1:=Hh (t1);clear t1)
 |((with_reducible refine Ze 2 ?_);refine Zc T1.out 82 _ rfl rfl z_P ?_;intro w2 g1 t2
   have T2:=Hh (t2);obtain⟨c0,c1,c2,c3,c4,c5⟩:=Wq (T2.out.get 0 rfl);clear t2)
 |((with_reducible refine Ze 16 ?_);refine Zb 82 _ 82 g0 _ (T2.out.get 0 rfl) Zn Yg rfl rfl rfl ?_)
 |((with_reducible refine Zi 2 16 ?_);refine Za 82 _ _ 82 g1 _ ([.slice A n k,.int .i64 (a:Int),.int .i64 (d:Int),.int .i64 f0,.int .i64 (f1:Int),.int .i64 (f2:Int)]) (T2.out.get 1 rfl) rfl Yg (by simp[Value.oneCell']) rfl rfl rfl rfl rfl ?_
   intro w3 p3;have T3:Hid (Env w [(g0,82,[.slice A n k,.int .i64 (a:Int),.int .i64 (d:Int),.int .i64 f0,.int .i64 (f1:Int),.int .i64 (f2:Int)]),(g1,82,[.slice A n k,.int .i64 (a:Int),.int .i64 (d:Int),.int .i64 f0,.int .i64 (f1:Int),.int .i64 (f2:Int)])] [] [] w3):=Hh (T2.out.put 1 rfl p3);clear p3))
  exact Wp 2 82 82 _ _ rfl (T3.out.get 1 rfl) Zn Yg rfl rfl ⟨_,rfl,RPv.mkBad (F:=(f0,f1,f2)) _ _ _ _ _ hd HF.out,T3.out.below⟩
theorem qto(w:World)(r K:Nat)(L:List TokV)(st:St)(vs:List Value)(ho:Ya w r K L)(hp:RPv r K L st vs) :
  Calls Tryz.prog 157 #[.agg vs.toArray] w (PTo w r K L (toS L st) (.int (toK L st) (.int (toL L st) .nil))):=by
 have T0:=Hh (Env.start w);by_cases hz:Zj L wTo st=4
 ·have e1:toS L st=Zcu L (Zm L wTo st):=if_pos hz
  have e2:toL L st=Zfz L (Zm L wTo st):=if_pos hz;have e3:((Zj L wTo st:Int) == 4)=true:=by rw[hz];rfl
  have E1:=Hh (And.intro e1 e2);clear e1 e2 hz;go_enter Tryz.func157,Tryz.ntmps157;go_wp2_with(first
 |((with_reducible refine Ze 1 ?_);refine Zk T0.out 82 _ (vs) rfl rfl rfl ?_;intro w1 g0 t1
   have T1:=Hh (t1);clear t1)
 |((with_reducible refine Ze 2 ?_);refine Zc T1.out 82 _ rfl rfl z_P ?_;intro w2 g1 t2
   have T2:=Hh (t2);clear t2)
 |((with_reducible refine Ze 3 ?_);refine Zc T2.out 48 _ rfl rfl z_T ?_;intro w3 g2 t3
   have T3:=Hh (t3);clear t3)
 |((with_reducible refine Ze 10 ?_);refine Zb 82 _ 82 g0 _ (T3.out.get 0 rfl) Zn (Zf hp.len) rfl rfl rfl ?_)
 |(go_at_call 103;refine(Zfo _ r K _ L st vs wTo 4 4 _ rfl rfl (ho.below T3.out.below) hp rfl (by decide)).mono ?_;rintro e w4 ⟨v4,rfl,h4,b4⟩
   have T4:=Hh (T3.out.call b4);clear b4)
 |((with_reducible refine Ze 4 ?_);refine Zc T4.out 82 _ rfl rfl z_P ?_;intro w5 g3 t5
   have T5:=Hh (t5);clear t5)
 |((with_reducible refine Zi 4 13 ?_);refine Za 82 _ _ 82 g3 _ (v4) (T5.out.get 3 rfl) h4.len (Zf h4.len) h4.one rfl rfl rfl rfl rfl ?_
   intro w6 p6;have T6:=Hh (T5.out.put 3 rfl p6);clear p6)
 |((with_reducible refine Ze 6 ?_);refine Zc T6.out 48 _ rfl rfl z_T ?_;intro w7 g4 t7
   have T7:=Hh (t7);clear t7)
 |((with_reducible refine Zi 6 16 ?_);refine Za 48 _ _ 48 g4 _ ([.int .i64 (Zj L wTo st:Int),.int .i64 0]) (T7.out.get 4 rfl) rfl Jv (by simp[Value.oneCell']) rfl rfl rfl rfl rfl ?_
   intro w8 p8;have T8:=Hh (T7.out.put 4 rfl p8);clear p8)
 |((with_reducible refine Ze 20 ?_);refine Zb 82 _ 82 g3 _ (T8.out.get 3 rfl) Zn (Zf h4.len) rfl rfl rfl ?_)
 |(go_at_call 49;refine(qnumber _ r K L _ v4 (ho.below T8.out.below) h4).mono ?_;rintro e w9 ⟨v9,rfl,h9,b9⟩
   have T9:=Hh (T8.out.call b9);clear b9)
 |((with_reducible refine Ze 7 ?_);refine Zc T9.out 82 _ rfl rfl z_P ?_;intro w10 g5 t10
   have T10:=Hh (t10);clear t10)
 |((with_reducible refine Zi 7 22 ?_);refine Za 82 _ _ 82 g5 _ (v9) (T10.out.get 5 rfl) h9.len (Zf h9.len) h9.one rfl rfl rfl rfl rfl ?_
   intro w11 p11;have T11:=Hh (T10.out.put 5 rfl p11);clear p11)
 |((with_reducible refine Zi 25 24 ?_);refine Zo 3 _ _ 48 g4 1 [.int .i64 (Zj L wTo st:Int)] (.int .i64 0) (.int .i64 (Zfz L (Zm L wTo st))) [] (T11.out.get 4 rfl) rfl Yl rfl rfl rfl rfl rfl rfl ?_
   intro w12 p12;have T12:Hid (Env w [(g0,82,vs),(g1,82,[.slice none 0 0,.int .i64 0,.int .i64 0,.int .i64 0,.int .i64 0,.int .i64 0]),(g2,48,[.int .i64 0,.int .i64 0]),(g3,82,v4),(g4,48,[.int .i64 (Zj L wTo st:Int),.int .i64 (Zfz L (Zm L wTo st))]),(g5,82,v9)] [] [] w12):=Hh (T11.out.put 4 rfl p12);clear p12))
  refine ret2 mixed (by kernel_rfl) (by kernel_rfl) (by kernel_rfl) (by kernel_rfl) (by kernel_rfl) (by kernel_rfl) (by kernel_rfl) (by kernel_rfl) rfl rfl rfl rfl rfl rfl rfl rfl rfl rfl g5 g4 g1 g2 (v9) ([.int .i64 (Zj L wTo st:Int),.int .i64 (Zfz L (Zm L wTo st))]) ([.slice none 0 0,.int .i64 0,.int .i64 0,.int .i64 0,.int .i64 0,.int .i64 0]) ([.int .i64 0,.int .i64 0]) (T12.out.get 5 rfl) (T12.out.get 4 rfl) (T12.out.get 1 rfl) (T12.out.get 2 rfl) h9.len rfl h9.one (by simp[Value.oneCell']) (T12.out.ne 5 1 (by decide) rfl rfl) (T12.out.ne 5 2 (by decide) rfl rfl) (T12.out.ne 4 1 (by decide) rfl rfl) (T12.out.ne 4 2 (by decide) rfl rfl) (T12.out.ne 1 2 (by decide) rfl rfl) Zn (Zf h9.len) Zjo Jv rfl rfl rfl rfl rfl rfl ?_;intro wz hR;have HZ:=Hh hR;clear hR;go_wp2
  obtain⟨dz,bz⟩:=T12.out.ret2 1 2 rfl rfl HZ.out;refine Yx 2 82 3 48 82 48 _ _ _ _ rfl HZ.out.one HZ.out.two Zn (Zf h9.len) Zjo Jv rfl rfl rfl ?_;rw[E1.out.1,E1.out.2];exact⟨_,_,rfl,h9,⟨_,rfl,_,rfl,rfl⟩,bz⟩
 ·have e1:toS L st=Zm L wTo st:=if_neg hz
  have e2:toL L st=0:=if_neg hz;have e3:((Zj L wTo st:Int) == 4)=false:=by rw[beq_eq_false_iff_ne];omega
  have E1:=Hh (And.intro e1 e2);clear e1 e2 hz;go_enter Tryz.func157,Tryz.ntmps157;go_wp2_with(first
 |((with_reducible refine Ze 1 ?_);refine Zk T0.out 82 _ (vs) rfl rfl rfl ?_;intro w1 g0 t1
   have T1:=Hh (t1);clear t1)
 |((with_reducible refine Ze 2 ?_);refine Zc T1.out 82 _ rfl rfl z_P ?_;intro w2 g1 t2
   have T2:=Hh (t2);clear t2)
 |((with_reducible refine Ze 3 ?_);refine Zc T2.out 48 _ rfl rfl z_T ?_;intro w3 g2 t3
   have T3:=Hh (t3);clear t3)
 |((with_reducible refine Ze 10 ?_);refine Zb 82 _ 82 g0 _ (T3.out.get 0 rfl) Zn (Zf hp.len) rfl rfl rfl ?_)
 |(go_at_call 103;refine(Zfo _ r K _ L st vs wTo 4 4 _ rfl rfl (ho.below T3.out.below) hp rfl (by decide)).mono ?_;rintro e w4 ⟨v4,rfl,h4,b4⟩
   have T4:=Hh (T3.out.call b4);clear b4)
 |((with_reducible refine Ze 4 ?_);refine Zc T4.out 82 _ rfl rfl z_P ?_;intro w5 g3 t5
   have T5:=Hh (t5);clear t5)
 |((with_reducible refine Zi 4 13 ?_);refine Za 82 _ _ 82 g3 _ (v4) (T5.out.get 3 rfl) h4.len (Zf h4.len) h4.one rfl rfl rfl rfl rfl ?_
   intro w6 p6;have T6:=Hh (T5.out.put 3 rfl p6);clear p6)
 |((with_reducible refine Ze 6 ?_);refine Zc T6.out 48 _ rfl rfl z_T ?_;intro w7 g4 t7
   have T7:=Hh (t7);clear t7)
 |((with_reducible refine Zi 6 16 ?_);refine Za 48 _ _ 48 g4 _ ([.int .i64 (Zj L wTo st:Int),.int .i64 0]) (T7.out.get 4 rfl) rfl Jv (by simp[Value.oneCell']) rfl rfl rfl rfl rfl ?_
   intro w8 p8;have T8:Hid (Env w [(g0,82,vs),(g1,82,[.slice none 0 0,.int .i64 0,.int .i64 0,.int .i64 0,.int .i64 0,.int .i64 0]),(g2,48,[.int .i64 0,.int .i64 0]),(g3,82,v4),(g4,48,[.int .i64 (Zj L wTo st:Int),.int .i64 0])] [] [] w8):=Hh (T7.out.put 4 rfl p8);clear p8))
  refine ret2 mixed (by kernel_rfl) (by kernel_rfl) (by kernel_rfl) (by kernel_rfl) (by kernel_rfl) (by kernel_rfl) (by kernel_rfl) (by kernel_rfl) rfl rfl rfl rfl rfl rfl rfl rfl rfl rfl g3 g4 g1 g2 (v4) ([.int .i64 (Zj L wTo st:Int),.int .i64 0]) ([.slice none 0 0,.int .i64 0,.int .i64 0,.int .i64 0,.int .i64 0,.int .i64 0]) ([.int .i64 0,.int .i64 0]) (T8.out.get 3 rfl) (T8.out.get 4 rfl) (T8.out.get 1 rfl) (T8.out.get 2 rfl) h4.len rfl h4.one (by simp[Value.oneCell']) (T8.out.ne 3 1 (by decide) rfl rfl) (T8.out.ne 3 2 (by decide) rfl rfl) (T8.out.ne 4 1 (by decide) rfl rfl) (T8.out.ne 4 2 (by decide) rfl rfl) (T8.out.ne 1 2 (by decide) rfl rfl) Zn (Zf h4.len) Zjo Jv rfl rfl rfl rfl rfl rfl ?_;intro wz hR;have HZ:=Hh hR;clear hR;go_wp2
  obtain⟨dz,bz⟩:=T8.out.ret2 1 2 rfl rfl HZ.out;refine Yx 2 82 3 48 82 48 _ _ _ _ rfl HZ.out.one HZ.out.two Zn (Zf h4.len) Zjo Jv rfl rfl rfl ?_;rw[E1.out.1,E1.out.2];exact⟨_,_,rfl,h4,⟨_,rfl,_,rfl,rfl⟩,bz⟩
open Go Go.RowKit
theorem Zlf{P:Program}{id:Nat}{Q:Exit→Act→World→Prop}{a:Act}{w:World}{o0 o1 o2 o3 o4:Oper}(hm:P.follows .mixedOrders=true)
  (cs:Region.noSelect #[o0,o1,o2,o3,o4]=true)(cf0:Region.free .any #[o0,o1,o2,o3,o4] (Array.replicate 5 false) 0=true)(cr0:(Region.ready .any #[o0,o1,o2,o3,o4] (Array.replicate 5 false)).contains 0=true)
  (cf2:Region.free .any #[o0,o1,o2,o3,o4] ((Array.replicate 5 false).setIfInBounds 0 true) 2=true)(cr2:(Region.ready .any #[o0,o1,o2,o3,o4] ((Array.replicate 5 false).setIfInBounds 0 true)).contains 2=true)
  (c1:Region.ready .any #[o0,o1,o2,o3,o4] (((Array.replicate 5 false).setIfInBounds 0 true).setIfInBounds 2 true)=[1])
  (c3:Region.ready .any #[o0,o1,o2,o3,o4] ((((Array.replicate 5 false).setIfInBounds 0 true).setIfInBounds 2 true).setIfInBounds 1 true)=[3])
  (c4:Region.ready .any #[o0,o1,o2,o3,o4] (((((Array.replicate 5 false).setIfInBounds 0 true).setIfInBounds 2 true).setIfInBounds 1 true).setIfInBounds 3 true)=[4])
  (c5:Region.ready .any #[o0,o1,o2,o3,o4] ((((((Array.replicate 5 false).setIfInBounds 0 true).setIfInBounds 2 true).setIfInBounds 1 true).setIfInBounds 3 true).setIfInBounds 4 true)=[])
  {T1 T2:TypeId}{x1 x2 y1 y2 z1 z2:Operand}(h0:o0.op=.load T1 x1)(h2:o2.op=.load T2 x2)(h3:o3.op=.store T1 y1 z1)(h4:o4.op=.store T2 y2 z2)
  (n0:o0.guard=none)(n1:o1.guard=none)(n2:o2.guard=none)(n3:o3.guard=none)(n4:o4.guard=none)(k3:o3.dst=none)(k4:o4.dst=none)
  (g1 g2 g3 g4:Nat){t1 t2 t3 t4:TypeId}(vs us old3 old4:List Value)(W1:Zd w g1 t1 vs.toArray)(W2:Zd w g2 t2 us.toArray)(W3:Zd w g3 t3 old3.toArray)(W4:Zd w g4 t4 old4.toArray)
  (f:FuncId)(args:Array Value)(R:List Value→Prop)
  (hrun:∀ x,(execOp ((a.put o0.dst (.agg vs.toArray)).put o2.dst (.agg us.toArray)).eval o1).run P x=.ok (.enter f args) x)
  (hc:Calls P f args w.drew fun e w''=>∃ vs':List Value,e=.returned (.agg vs'.toArray)∧R vs'∧Below w.drew.heap.size w.drew w'')
  (hl3:∀ vs',R vs'→vs'.length=old3.length)(hl4:us.length=old4.length)(ho1:∀ vs',R vs'→∀ v ∈ vs',v.oneCell'=true)(ho2:∀ v ∈ us,v.oneCell'=true)
  (d13:g1≠g3)(d14:g1≠g4)(d23:g2≠g3)(d24:g2≠g4)(d34:g3≠g4)(hvl:vs.length=old3.length)
  (hu1:(P.underlying T1).map TypeDesc.isRow=some true)(hi1:(P.info? T1).map (·.size)=some vs.length)(hu2:(P.underlying T2).map TypeDesc.isRow=some true)(hi2:(P.info? T2).map (·.size)=some us.length)
  (e1:a.eval x1=.pointer (some ⟨g1,0,none⟩))(e2:(a.put o0.dst (.agg vs.toArray)).eval x2=.pointer (some ⟨g2,0,none⟩))
  (e3:∀ v,(((a.put o0.dst (.agg vs.toArray)).put o2.dst (.agg us.toArray)).put o1.dst v).eval y1=.pointer (some ⟨g3,0,none⟩))(e4:∀ v,(((a.put o0.dst (.agg vs.toArray)).put o2.dst (.agg us.toArray)).put o1.dst v).eval z1=v)
  (e5:∀ v,(((a.put o0.dst (.agg vs.toArray)).put o2.dst (.agg us.toArray)).put o1.dst v).eval y2=.pointer (some ⟨g4,0,none⟩))(e6:∀ v,(((a.put o0.dst (.agg vs.toArray)).put o2.dst (.agg us.toArray)).put o1.dst v).eval z2=.agg us.toArray)
  (h:∀ vs' w',R vs'→Ret2 w w' g3 g4 t3 t4 vs' us→Q .normal (((a.put o0.dst (.agg vs.toArray)).put o2.dst (.agg us.toArray)).put o1.dst (.agg vs'.toArray)) w'):(Code.region id #[o0,o1,o2,o3,o4] true).wp P Q a w:=by
 obtain⟨d1,hu1,hr1⟩:=Option.map_eq_some_iff.1 hu1;obtain⟨d2,hu2,hr2⟩:=Option.map_eq_some_iff.1 hu2;refine wp_region_noPanic (wp_region_held_drew (S:=fun x=>Zd x g1 t1 vs.toArray∧Zd x g2 t2 us.toArray) hm ⟨W1.drew,W2.drew⟩ fun hS=>?_);have rg:∀{x:World}{g:Nat}{t:TypeId}{l:List Value},Zd x g t l.toArray→x.rangeAt g 0 l:=fun{x g t l} hx=>Zd.range (a:=[]) (b:=l) (c:=[]) (by simpa using hx)
 refine wpAnyH_take (i:=0) (oi:=o0) (v:=.agg vs.toArray) rfl cs cf0 cr0 (fun _ _ _ h=>h) (yieldsIf_load_mid (Ur n0) T1 x1 h0 g1 0 e1 vs d1 (fun x hx=>rg hx.1) hu1 hr1 hi1) hS ?_;refine wpAnyH_take (i:=2) (oi:=o2) (v:=.agg us.toArray) rfl cs cf2 cr2 (fun _ _ _ h=>h) (yieldsIf_load_mid (Ur n2) T2 x2 h2 g2 0 e2 us d2 (fun x hx=>rg hx.2) hu2 hr2 hi2) hS ?_;refine wpAnyH_ready (rs:=[1]) c1 (by simp) (AllReadyH.cons (o:=o1) rfl (fun K hK=>?_) AllReadyH.nil);rw[if_pos (Ur n1)];unfold Oper.wp;rw[hrun,Oper.upon_enter];refine hc.mono fun e w1 hh=>?_
 obtain⟨vs',rfl,hR,hB⟩:=hh;have kB:=Zx.of_below (S:=fun _=>False) hB;have V1:=kB.whole W1.drew not_false;have V2:=kB.whole W2.drew not_false;have V3:=kB.whole W3.drew not_false;have V4:=kB.whole W4.drew not_false;refine hK.out _ _ ⟨V1,V2⟩ fun hS1=>?_
 have th:∀{x:World}{g:Nat}{t:TypeId}{l:List Value},Zd x g t l.toArray→x.there g 0 l.length:=fun{x g t l} hx=>Zd.there (a:=[]) (b:=l) (c:=[]) (by simpa using hx)
 have p3:Zd (w1.setCells g3 0 vs') g3 t3 vs'.toArray:=by
  have e:=Zd.setCells (g:=g3) (t:=t3) [] vs' old3 [] w1 (hl3 _ hR) (by simpa using V3);simpa using e
 have k3':=Zx.setCells (S:=fun k=>k=g3) (g:=g3) rfl vs' 0 (Zx.refl _ w1);have q4:Zd (w1.setCells g3 0 vs') g4 t4 old4.toArray:=k3'.whole V4 (Ne.symm d34)
 have p4:Zd ((w1.setCells g3 0 vs').setCells g4 0 us) g4 t4 us.toArray:=by
  have e:=Zd.setCells (g:=g4) (t:=t4) [] us old4 [] (w1.setCells g3 0 vs') hl4 (by simpa using q4);simpa using e
 have k4':=Zx.setCells (S:=fun k=>k=g4) (g:=g4) rfl us 0 (Zx.refl _ (w1.setCells g3 0 vs'));refine wpAnyH_ready (rs:=[3]) c3 (by simp) (AllReadyH.cons (o:=o3) rfl (fun K hK=>?_) AllReadyH.nil);rw[if_pos (Ur n3)];refine wp_store_mid T1 y1 z1 h3 g3 0 vs'.toArray (e3 _) (e4 _) (by rw[List.size_toArray,hl3 _ hR];exact th V3) (by rw[List.size_toArray,hl3 _ hR,←hvl];exact hi1) (all_oneCell_toArray (ho1 _ hR)) ?_;rw[k3];refine hK.out _ _ ⟨k3'.whole V1 d13,k3'.whole V2 d23⟩ fun hS3=>?_
 refine wpAnyH_ready (rs:=[4]) c4 (by simp) (AllReadyH.cons (o:=o4) rfl (fun K hK=>?_) AllReadyH.nil);rw[if_pos (Ur n4)];refine wp_store_mid T2 y2 z2 h4 g4 0 us.toArray (e5 _) (e6 _) (by rw[List.size_toArray,hl4];exact th q4) (by simpa using hi2) (all_oneCell_toArray ho2) ?_;rw[k4];refine hK.out _ _ ⟨k4'.whole (k3'.whole V1 d13) d14,k4'.whole (k3'.whole V2 d23) d24⟩ fun hS4=>?_
 refine wpAnyH_done c5 ?_ _;refine h _ _ hR ⟨k4'.whole p3 d34,p4,?_⟩;exact(Zx.drew (Zx.refl _ w)).trans ((kB.mono fun k e=>e.elim).trans ((k3'.mono fun k e=>.inl e).trans (k4'.mono fun k e=>.inr e)))
end Go.Proofs.YtljdgdphldckhaaGreat
