/-
  No conditions but those that each theorem names.
-/
import Derived.Deep.Draws
import Derived.Deep.OwnRows
import Derived.Maps.AppendAt
import Derived.Test.YtljdgdphldckhaaGreatQU5
set_option maxRecDepth 20000
set_option maxHeartbeats 12800000
namespace Go.Proofs.YtljdgdphldckhaaGreat
open Go.ChangeShapes Go.WideShapes Go.ChangeAt Go.RowKit
set_option linter.unusedVariables false
set_option linter.unusedSimpArgs false
theorem firstV_form(t:ByteArray):∃ k x n z e,Ui t=Vy k x n z e:=by
 unfold Ui;split
 ·exact⟨_,_,_,_,_,rfl⟩
 ·exact⟨_,_,_,_,_,rfl⟩
theorem tkFirst(t:ByteArray)(w:World)(hs:t.size≤140737488355328)(h35:0<t.size→gB t 0≠35) :
  Calls Tryz.prog 208 #[.string t] w fun e w'=>e=.returned (Ui t)∧Below w.heap.size w w':=by
 by_cases h0:0<t.size
 ·have hne:t.toList.isEmpty=false:=by
    rw[ByteArray.toList_eq,List.isEmpty_eq_false_iff,ne_eq,←List.length_eq_zero_iff];show ¬ t.data.size=0;exact Nat.ne_of_gt h0
  have hne2:(!t.toList.isEmpty)=true:=by rw[hne];rfl
  have c0:∀ w,Calls Tryz.prog 235 #[.string t,.int .i64 0] w fun e w'=>e=.returned (.tuple #[.int .i32 (Utf8.decode t 0).1,.int .i64 (Utf8.decode t 0).2])∧Below w.heap.size w w':=fun w=>At_in t 0 w hs h0
  have c1:=fun w=>Znm ((Utf8.decode t 0).1:Int) w
  have c2:=fun w=>Digit_any ((Utf8.decode t 0).1:Int) w
  have c3:=Zoy t 0 34 (by omega) (by omega);rw[small_dec]at c1;rw[digit_dec]at c2;obtain⟨k,x,n,z,e,hv⟩:=firstV_form t;have h35':=h35 h0;cases hsm:Zba (gB t 0:Int)with
  |true=>
    have d1:=fun w=>tkWord t w hs h0 hsm
    rw[hsm]at c1;rw[hv]at d1 ⊢;have HV:=Hh hv;simp only[Vy]at d1;clear hv hsm c3;go_enter Tryz.func208,Tryz.ntmps208;go_wp2_with(first
 |(go_at_call 235;refine(c0 _).mono ?_;rintro e w1 ⟨rfl,b1⟩;have b1':=Ul ((Below.refl w.heap.size w).alloc (Nat.le_refl _) _) b1;have W1:=Hh ((Zd.made w 85 #[.int .i64 0,.string ⟨#[]⟩,.int .i64 0,.int .i64 0,.int .i64 0]).below b1 (by simp));clear b1)
 |(go_at_call 236;refine(c1 _).mono ?_;rintro e w2 ⟨rfl,rfl⟩)
 |(go_at_call 238;refine(c2 _).mono ?_;rintro e w2 ⟨rfl,rfl⟩)
 |(go_at_call 237;refine(d1 _).mono ?_;rintro e w2 ⟨rfl,b2⟩;have HB:=Hh (Ul b1' b2);have HW:=Hh (W1.out.below b2 W1.out.inside);obtain⟨k0,k1,k2,k3,k4,f0,f1,f2,f3,f4⟩:=Zaw HW.out;clear b2 b1'))
    have hF:=Zbk (Zd.set5 HW.out (.int .i64 k) (.string x) (.int .i64 n) (.int .i64 0) (.int .i64 0));refine bodyPost_ret (v:=Vy k x n z e) (by simp[results,Tryz.results208,go_sem,Vy,hF]) rfl ⟨rfl,?_⟩;exact Below.set5 HB.out (Nat.le_refl _) _ _ _ _ _
  |false=>
    cases hdg:isD (gB t 0:Int)with
    |true=>
     have d1:=fun w=>tkNumber t w hs h0 hdg
     rw[hsm]at c1;rw[hdg]at c2;rw[hv]at d1 ⊢;have HV:=Hh hv;simp only[Vy]at d1;clear hv hsm hdg c3;go_enter Tryz.func208,Tryz.ntmps208;go_wp2_with(first
 |(go_at_call 235;refine(c0 _).mono ?_;rintro e w1 ⟨rfl,b1⟩;have b1':=Ul ((Below.refl w.heap.size w).alloc (Nat.le_refl _) _) b1;have W1:=Hh ((Zd.made w 85 #[.int .i64 0,.string ⟨#[]⟩,.int .i64 0,.int .i64 0,.int .i64 0]).below b1 (by simp));clear b1)
 |(go_at_call 236;refine(c1 _).mono ?_;rintro e w2 ⟨rfl,rfl⟩)
 |(go_at_call 238;refine(c2 _).mono ?_;rintro e w2 ⟨rfl,rfl⟩)
 |(go_at_call 239;refine(d1 _).mono ?_;rintro e w2 ⟨rfl,b2⟩;have HB:=Hh (Ul b1' b2);have HW:=Hh (W1.out.below b2 W1.out.inside);obtain⟨k0,k1,k2,k3,k4,f0,f1,f2,f3,f4⟩:=Zaw HW.out;clear b2 b1'))
     have hF:=Zbk (Zd.set5 HW.out (.int .i64 k) (.string x) (.int .i64 n) (.int .i64 0) (.int .i64 0));refine bodyPost_ret (v:=Vy k x n z e) (by simp[results,Tryz.results208,go_sem,Vy,hF]) rfl ⟨rfl,?_⟩;exact Below.set5 HB.out (Nat.le_refl _) _ _ _ _ _
    |false=>
     by_cases hq:gB t 0=34
     ·have q1:(((Utf8.decode t 0).1:Int) == 34)=true:=by rw[c3];simp[hq]
      have d1:=fun w=>tkName t w hs h0 hq
      rw[hsm]at c1;rw[hdg]at c2;rw[hv]at d1 ⊢;have HV:=Hh hv;simp only[Vy]at d1;clear hv hsm hdg c3 hq;go_enter Tryz.func208,Tryz.ntmps208;go_wp2_with(first
 |(go_at_call 235;refine(c0 _).mono ?_;rintro e w1 ⟨rfl,b1⟩;have b1':=Ul ((Below.refl w.heap.size w).alloc (Nat.le_refl _) _) b1;have W1:=Hh ((Zd.made w 85 #[.int .i64 0,.string ⟨#[]⟩,.int .i64 0,.int .i64 0,.int .i64 0]).below b1 (by simp));clear b1)
 |(go_at_call 236;refine(c1 _).mono ?_;rintro e w2 ⟨rfl,rfl⟩)
 |(go_at_call 238;refine(c2 _).mono ?_;rintro e w2 ⟨rfl,rfl⟩)
 |(go_at_call 240;refine(d1 _).mono ?_;rintro e w2 ⟨rfl,b2⟩;have HB:=Hh (Ul b1' b2);have HW:=Hh (W1.out.below b2 W1.out.inside);obtain⟨k0,k1,k2,k3,k4,f0,f1,f2,f3,f4⟩:=Zaw HW.out;clear b2 b1'))
      have hF:=Zbk (Zd.set5 HW.out (.int .i64 k) (.string x) (.int .i64 n) (.int .i64 0) (.int .i64 0));refine bodyPost_ret (v:=Vy k x n z e) (by simp[results,Tryz.results208,go_sem,Vy,hF]) rfl ⟨rfl,?_⟩;exact Below.set5 HB.out (Nat.le_refl _) _ _ _ _ _
     ·have q1:(((Utf8.decode t 0).1:Int) == 34)=false:=by rw[c3];simp;omega
      have d1:=fun w=>tkMark t w hs h0 hsm hdg h35' hq
      rw[hsm]at c1;rw[hdg]at c2;rw[hv]at d1 ⊢;have HV:=Hh hv;simp only[Vy]at d1;clear hv hsm hdg c3 hq;go_enter Tryz.func208,Tryz.ntmps208;go_wp2_with(first
 |(go_at_call 235;refine(c0 _).mono ?_;rintro e w1 ⟨rfl,b1⟩;have b1':=Ul ((Below.refl w.heap.size w).alloc (Nat.le_refl _) _) b1;have W1:=Hh ((Zd.made w 85 #[.int .i64 0,.string ⟨#[]⟩,.int .i64 0,.int .i64 0,.int .i64 0]).below b1 (by simp));clear b1)
 |(go_at_call 236;refine(c1 _).mono ?_;rintro e w2 ⟨rfl,rfl⟩)
 |(go_at_call 238;refine(c2 _).mono ?_;rintro e w2 ⟨rfl,rfl⟩)
 |(go_at_call 241;refine(d1 _).mono ?_;rintro e w2 ⟨rfl,b2⟩;have HB:=Hh (Ul b1' b2);have HW:=Hh (W1.out.below b2 W1.out.inside);obtain⟨k0,k1,k2,k3,k4,f0,f1,f2,f3,f4⟩:=Zaw HW.out;clear b2 b1'))
      have hF:=Zbk (Zd.set5 HW.out (.int .i64 k) (.string x) (.int .i64 n) (.int .i64 0) (.int .i64 0));refine bodyPost_ret (v:=Vy k x n z e) (by simp[results,Tryz.results208,go_sem,Vy,hF]) rfl ⟨rfl,?_⟩;exact Below.set5 HB.out (Nat.le_refl _) _ _ _ _ _
 ·have he:t=⟨#[]⟩:=by
    apply ByteArray.ext;apply Array.eq_empty_of_size_eq_zero;have:t.data.size=t.size:=rfl;omega
  subst he;have hv:Ui ⟨#[]⟩=Vy 0 ⟨#[]⟩ 0 0 0:=by kernel_rfl
  have HV:=Hh hv;clear hv h35;go_enter Tryz.func208,Tryz.ntmps208;go_wp2
  refine bodyPost_ret (v:=Vy 0 ⟨#[]⟩ 0 0 0) (by simp[results,Tryz.results208,go_sem,Vy]) rfl ⟨by rw[HV.out],?_⟩;exact(Below.refl _ _).alloc (Nat.le_refl _) _
theorem gap_skip(t:ByteArray):∀(k pos:Nat),pos+k≤t.size→(∀ j,j<k→gB t (pos+j)≠10)→Zcn (Zl t pos) true=k+Zcn (Zl t (pos+k)) true
 |0,pos,_,_=>by simp
 |k+1,pos,h,hb=>by
  have h0:=hb 0 (by omega);rw[Nat.add_zero]at h0;rw[Xa t (show pos<t.size by omega)];simp only[Zcn];rw[(Zbw 10 _).2 (by omega),gap_skip t k (pos+1) (by omega) (fun j hj=>by have:=hb (j+1) (by omega);rwa [show pos+1+j=pos+(j+1)from by omega]),show pos+1+k=pos+(k+1)from by omega];omega
theorem gap_in(t:ByteArray)(pos:Nat)(h:pos<t.size):Zcn (Zl t pos) true=(Utf8.decode t pos).2+Zcn (Zl t (pos+(Utf8.decode t pos).2)) (((Utf8.decode t pos).1:Int) != 10):=by
 have hd:=Zco t pos h;by_cases h1:(Utf8.decode t pos).2=1
 ·have e:(((Utf8.decode t pos).1:Int) != 10)=Xl 10 (gB t pos:Int):=by
   unfold bne;rw[Zoy t pos 10 (by omega) (by omega)];unfold Xl;congr 1
  rw[e,h1,Xa t h];rfl
 ·have hall:∀ j,j<(Utf8.decode t pos).2→gB t (pos+j)≠10:=by
   intro j hj;by_cases hj0:j=0
   ·subst hj0
    rw[Nat.add_zero];intro hc;rw[Vi t pos (by omega)]at h1;exact h1 rfl
   ·have:=dec_cont t pos j h (by omega) hj
    omega
  have e:(((Utf8.decode t pos).1:Int) != 10)=true:=by
   unfold bne;rw[Zoy t pos 10 (by omega) (by omega)];have:=hall 0 (by omega);rw[Nat.add_zero]at this;simp;omega
  rw[e];exact gap_skip t _ pos hd.2.1 hall
theorem gap_hash(t:ByteArray)(pos:Nat)(h:pos<t.size)(h35:gB t pos=35):Zcn (Zl t pos) false=(Utf8.decode t pos).2+Zcn (Zl t (pos+(Utf8.decode t pos).2)) true:=by
 rw[Vi t pos (by omega),Xa t h,h35];simp only[Zcn];rw[if_pos (show((35:Nat):Int)=35 from rfl)]
theorem gap_blank(t:ByteArray)(pos:Nat)(h:pos<t.size)(h35:gB t pos≠35)(hb:Zhq (gB t pos:Int)=true):Zcn (Zl t pos) false=(Utf8.decode t pos).2+Zcn (Zl t (pos+(Utf8.decode t pos).2)) false:=by
 have:gB t pos<128:=by rw[Zef]at hb;omega
 rw[Vi t pos this,Xa t h];simp only[Zcn];rw[if_neg (by omega),if_pos hb]
theorem gap_stop(t:ByteArray)(pos:Nat)(h:pos<t.size)(h35:gB t pos≠35)(hb:Zhq (gB t pos:Int)=false):Zcn (Zl t pos) false=0:=by
 rw[Xa t h];simp only[Zcn];rw[if_neg (by omega),if_neg (by rw[hb];simp)]
theorem tkGap(t:ByteArray)(w:World)(hs:t.size≤140737488355328):Calls Tryz.prog 207 #[.string t] w fun e w'=>e=.returned (.int .i64 (Zcn (Zl t 0) false:Nat))∧Below w.heap.size w w':=by
 generalize hG:Zcn (Zl t 0) false=G;have HG:=Hh hG;clear hG;go_enter Tryz.func207,Tryz.ntmps207;go_wp2
 go_loopw [3] (fun c wr=>∃(pos:Nat)(b:Bool),c=.bool b∧wr=w.iter t pos∧pos≤t.size∧pos+Zcn (Zl t pos) b=G) (fun _ wr=>t.size - wr.iterPos w.heap.size)
 case atStart=>exact⟨0,false,rfl,rfl,by omega,by rw[Nat.zero_add];exact HG.out⟩
 case round=>
  obtain⟨pos,b,rfl,rfl,hps,he⟩:=hrel;have HE:=Hh he;clear he;by_cases hp:pos<t.size
  ·have hnx:∀ ty,(Instr.next (.pointer (some ⟨w.heap.size,0,none⟩)) true ty).run Tryz.prog (w.iter t pos)=_:=fun ty=>run_next_any w t pos ty hp
   have hd:=Zco t pos hp;obtain⟨d1,d2,d3,d4⟩:=hd;have c1:=fun w=>Blank_any ((Utf8.decode t pos).1:Int) w
   rw[blank_dec]at c1;have q35:=Zoy t pos 35 (by omega) (by omega);cases b with
   |true=>
    have hg:=gap_in t pos hp;have HX:=Hh hg;clear hg q35 c1;go_wp2
    go_roundw
    case rel=>exact⟨pos+(Utf8.decode t pos).2,_,rfl,rfl,d2,by have:=HX.out;have:=HE.out;omega⟩
    case measure=>simp;omega
   |false=>
    by_cases h35:gB t pos=35
    ·have hq:(((Utf8.decode t pos).1:Int) == 35)=true:=by rw[q35];simp[h35]
     have hg:=gap_hash t pos hp h35;have HX:=Hh hg;clear hg q35 h35;go_wp2_with(go_at_call 234;refine(c1 _).mono ?_;rintro e w1 ⟨rfl,rfl⟩)
     go_roundw
     case rel=>exact⟨pos+(Utf8.decode t pos).2,true,rfl,rfl,d2,by have:=HX.out;have:=HE.out;omega⟩
     case measure=>simp;omega
    ·have hq:(((Utf8.decode t pos).1:Int) == 35)=false:=by rw[q35];simp;omega
     cases hbl:Zhq (gB t pos:Int)with
     |true=>
      have hg:=gap_blank t pos hp h35 hbl;have HX:=Hh hg;rw[hbl]at c1;clear hg q35 h35 hbl;go_wp2_with(go_at_call 234;refine(c1 _).mono ?_;rintro e w1 ⟨rfl,rfl⟩)
      go_roundw
      case rel=>exact⟨pos+(Utf8.decode t pos).2,false,rfl,rfl,d2,by have:=HX.out;have:=HE.out;omega⟩
      case measure=>simp;omega
     |false=>
      have hg:=gap_stop t pos hp h35 hbl;have HX:=Hh hg;rw[hbl]at c1;clear hg q35 h35 hbl;go_wp2_with(go_at_call 234;refine(c1 _).mono ?_;rintro e w1 ⟨rfl,rfl⟩)
      go_ret;exact⟨rI (by have:=HX.out;have:=HE.out;omega),(Below.refl _ _).alloc (Nat.le_refl _) _⟩
  ·have hnx:∀ ty,(Instr.next (.pointer (some ⟨w.heap.size,0,none⟩)) true ty).run Tryz.prog (w.iter t pos)=_:=fun ty=>run_next_end w t pos ty hp
   have hz:t.size=G:=by
    have:=HE.out;rw[Zbg t (by omega)]at this;cases b<;>(simp only[Zcn]at this;omega)
   have HZ:=Hh hz;clear hz;go_wp2
   go_ret;exact⟨rI (by have:=HZ.out;omega),(Below.refl _ _).alloc (Nat.le_refl _) _⟩
def PassPost(X:Nat)(r:ByteArray)(p:Nat×Nat)(n:Nat)(w:World)(e:Ending)(w':World):Prop:=
 e=.returned (.tuple #[])∧Zd w' X 260 #[.string (r.extract n r.size),.int .i64 ((adv p (Zs (r.extract 0 n) n)).1:Nat),.int .i64 ((adv p (Zs (r.extract 0 n) n)).2:Nat)]∧Zx (fun b=>b=X) w w'
theorem tkPass(X:Nat)(r:ByteArray)(p:Nat×Nat)(n:Nat)(w:World)(hr:r.size≤140737488355328)(hn:n≤r.size)(p1:p.1≤140737488355328)(p2:p.2≤140737488355328)
  (hW:Zd w X 260 #[.string r,.int .i64 (p.1:Nat),.int .i64 (p.2:Nat)]) :
  Calls Tryz.prog 206 #[.pointer (some ⟨X,0,none⟩),.int .i64 (n:Int)] w (PassPost X r p n w):=by
 have hz:=size_extract r 0 n hn;have hpb:=Zes (r.extract 0 n) n;have c1:=fun w=>Place_any (r.extract 0 n) (n:Int) w (by omega)
 have hq3:1≤((Zs (r.extract 0 n) (n:Int)).2:Int):=by
  have e:=(place_pos (r.extract 0 n) (Bd.end_ _)).2;rw[hz,Nat.sub_zero]at e;omega
 generalize hq:Zs (r.extract 0 n) (n:Int)=q at *;have HQ:=Hh hq;rw[hz]at hpb;obtain⟨hq1,hq2⟩:=hpb;have l1:(n:Int)≤(r.size:Int):=by omega
 have k0:w.cell? ⟨X,0,none⟩=some (.string r):=hW.read 0;have HW:=Hh hW;clear hq hz hW;have hXi:=HW.out.inside;by_cases hl:1<(q.1:Int)
 ·have ha:adv p q=(p.1+q.1 - 1,q.2):=by unfold adv;rw[if_pos (by omega)]
  have HA:=Hh ha;clear ha;go_enter Tryz.func206,Tryz.ntmps206;go_wp2_with(go_at_call 233;refine(c1 _).mono ?_;rintro e w1 ⟨rfl,b1⟩;have W1:=Hh (HW.out.below b1 hXi);have B1:=Hh b1;have k0:=W1.out.read 0;have k1:=W1.out.read 1;have k2:=W1.out.read 2;have f0:=W1.out.thawed 0;have f1:=W1.out.thawed 1;have f2:=W1.out.thawed 2;clear b1)
  go_end0
  refine⟨rfl,?_,?_⟩
  ·rw[HQ.out,HA.out]
   dsimp only;rw[show((p.1+q.1 - 1:Nat):Int)=(p.1:Int)+((q.1:Int) - 1)from by omega];exact((W1.out.write 1 _).write 2 _).write 0 _
  ·refine Zx.setCell (Zx.setCell (Zx.setCell (Zx.of_below B1.out) ?_ _) ?_ _) ?_ _<;>rfl
 ·have ha:adv p q=(p.1,p.2+q.2 - 1):=by unfold adv;rw[if_neg (by omega)]
  have HA:=Hh ha;have hq2':1≤(q.2:Int):=hq3;clear ha;go_enter Tryz.func206,Tryz.ntmps206;go_wp2_with(go_at_call 233;refine(c1 _).mono ?_;rintro e w1 ⟨rfl,b1⟩;have W1:=Hh (HW.out.below b1 hXi);have B1:=Hh b1;have k0:=W1.out.read 0;have k1:=W1.out.read 1;have k2:=W1.out.read 2;have f0:=W1.out.thawed 0;have f1:=W1.out.thawed 1;have f2:=W1.out.thawed 2;clear b1)
  go_end0
  refine⟨rfl,?_,?_⟩
  ·rw[HQ.out,HA.out]
   dsimp only;rw[show((p.2+q.2 - 1:Nat):Int)=(p.2:Int)+((q.2:Int) - 1)from by omega];exact(W1.out.write 2 _).write 0 _
  ·refine Zx.setCell (Zx.setCell (Zx.of_below B1.out) ?_ _) ?_ _<;>rfl
open Go Go.RowKit
theorem own_heap{w w':World}{base:Nat}{e:TypeId}{size:Nat}{v:Value}{n:Nat}{xs:List Value}(h:w.ownsRow base e size v n xs)(he:w'.heap=w.heap):w'.ownsRow base e size v n xs:=by
 unfold World.ownsRow at *;rw[he];exact h
structure Zkf(Y wr:World)(o:Obj):Prop where
 heap:Y.heap=(wr.alloc o).heap
 os:Y.os=wr.os
 tape:Y.tape=wr.tape
 output:Y.output=wr.output
theorem Zkf.keeps{S:Nat→Prop}{a Y wr:World}{o:Obj}(l:Zkf Y wr o)(h:Zx S a wr):Zx S a Y:=by
 have k:=h.alloc o;exact⟨l.os.trans h.os,l.tape.trans h.tape,l.output.trans h.output,by rw[l.heap];exact k.size,fun b h1 h2=>by rw[l.heap];exact k.block b h1 h2⟩
theorem Zkf.whole{Y wr:World}{o:Obj}(l:Zkf Y wr o){g:Nat}{t:TypeId}{cs:Array Value}(h:Zd wr g t cs):Zd Y g t cs:=by
 unfold Zd;rw[l.heap];exact h.alloc o
theorem Zkf.own{Y wr:World}{o:Obj}(l:Zkf Y wr o){base:Nat}{e:TypeId}{size:Nat}{v:Value}{n:Nat}{xs:List Value}(h:wr.ownsRow base e size v n xs):Y.ownsRow base e size v n xs:=own_heap (h.alloc o) l.heap
theorem Zkf.size{Y wr:World}{o:Obj}(l:Zkf Y wr o):Y.heap.size=wr.heap.size+1:=by rw[l.heap];simp
theorem Zkf.far{Y wr w3:World}{o:Obj}(l:Zkf Y wr o){row:Option Nat}(hg:Y.grownBy w3 row){p:Addr}(hp:p.block<wr.heap.size)(hn:some p.block≠row):w3.cell? p=wr.cell? p∧w3.frozen? p=wr.frozen? p:=by
 have h1:=hg.block p.block (by rw[l.size];omega) hn;have h2:Y.heap[p.block]?=wr.heap[p.block]?:=by rw[l.heap];exact Below.heap_alloc wr o p.block hp
 exact⟨World.cell?_of_block (h1.trans h2),World.frozen?_of_block (h1.trans h2)⟩
theorem Zx.drewN{S:Nat→Prop}{a b:World}(h:Zx S a b)(q:Nat):Zx S a (b.drewN q):=⟨h.os,h.tape,h.output,h.size,h.block⟩
theorem Zkf.ge{Y wr:World}{o:Obj}(l:Zkf Y wr o){n:Nat}(h:n≤wr.heap.size):n≤Y.heap.size:=by rw[l.size];omega
theorem Zkf.below{Y wr w:World}{o:Obj}(l:Zkf Y wr o){B:Nat}(h:Below B w wr)(hB:B≤wr.heap.size):Below B w Y:=
 ⟨l.os.trans h.os,l.tape.trans h.tape,l.output.trans h.output,by rw[l.size];have:=h.size;omega,fun k hk=>by rw[l.heap,Below.heap_alloc wr o k (by omega)];exact h.block k hk⟩
theorem Zkf.grown{Y wr w':World}{o:Obj}(l:Zkf Y wr o){row:Option Nat}(hg:Y.grownBy w' row):wr.grownBy w' row:=
 ⟨hg.os.trans l.os,hg.tape.trans l.tape,hg.output.trans l.output,Nat.le_trans (by rw[l.size];omega) hg.size,fun k hk hn=>(hg.block k (by rw[l.size];omega) hn).trans (by rw[l.heap];exact Below.heap_alloc wr o k hk)⟩
theorem Zd.drew{w:World}{g:Nat}{t:TypeId}{cs:Array Value}(h:Zd w g t cs):Zd w.drew g t cs:=h
theorem Zd.drewN{w:World}{g:Nat}{t:TypeId}{cs:Array Value}(h:Zd w g t cs)(n:Nat):Zd (w.drewN n) g t cs:=h
end Go.Proofs.YtljdgdphldckhaaGreat
