/-
  No conditions but those that each theorem names.
-/
import Derived.IntWalk
import Derived.Test.YtljdgdphldckhaaGreatQU3
set_option maxRecDepth 20000
set_option maxHeartbeats 12800000
namespace Go.Proofs.YtljdgdphldckhaaGreat
open Go.ChangeShapes Go.WideShapes Go.ChangeAt Go.RowKit
set_option linter.unusedVariables false
set_option linter.unusedSimpArgs false
def Vy(k:Int)(t:ByteArray)(n:Int)(size e:Int):Value:=.tuple #[.agg #[.int .i64 k,.string t,.int .i64 n,.int .i64 0,.int .i64 0],.int .i64 size,.int .i64 e]
def Ui(t:ByteArray):Value:=
 if(Yh (bL t)).1 < -1 then Vy 0 ⟨#[]⟩ 0 0 (Zku (Yh (bL t)).1)
 else Vy (Yh (bL t)).1 (t.extract (Yh (bL t)).2.1 (Yh (bL t)).2.2.1) (Zdo (Yh (bL t)).1 (bL t)) (Yh (bL t)).2.2.2 0
theorem Zpa(t:ByteArray)(h:0<t.size):bL t=(gB t 0:Int)::(bL t).drop 1:=by
 have:=Zkt t 0 h;rwa [List.drop_zero,Nat.zero_add]at this
theorem tkNumber(t:ByteArray)(w:World)(hs:t.size≤140737488355328)(h0:0<t.size)(hd:isD (gB t 0)=true) :
  Calls Tryz.prog 239 #[.string t] w fun e w'=>e=.returned (Ui t)∧Below w.heap.size w w':=by
 have hsm:Zba (gB t 0:Int)=false:=by rw[Zce]at hd;rw[←Bool.not_eq_true,Zfj];omega
 have hb:=Zpa t h0;have hlen:=Ziw isD (bL t);rw[Vm]at hlen;have hpos:0<tw isD (bL t):=by rw[hb,Ue _ hd];omega
 by_cases hbad:2<tw isD (bL t)∨(tw isD (bL t)=2∧gB t 0=48)
 ·have hT:Us t 0 2=(0,0,false):=by
   unfold Us;rw[if_neg (by omega),if_neg];rw[show(0:Int).toNat=0 from rfl,List.drop_zero,Zeo];rintro⟨_,h2,_,h4⟩;rcases hbad with h | ⟨h,h'⟩
   ·omega
   ·have hx:(Xx (bL t))[0]?=some 48:=by
     rw[hb,Zav _ hd,List.getElem?_cons_zero,h'];rfl
    have hl:(Xx (bL t)).length=2:=by rw[Zeo];exact h
    unfold Zdn at h4;rw[hx,hl]at h4;simp at h4
  have hv:Ui t=Vy 0 ⟨#[]⟩ 0 0 12:=by
   have hk:Yh (bL t)=(-2,0,0,0):=by
    rw[hb]at hbad ⊢;rw[Jw,if_neg (by rw[hsm];simp),if_pos hd,if_pos (by rcases hbad with h | ⟨h,h'⟩;exact .inl h;exact .inr ⟨h,by omega⟩)]
   unfold Ui;rw[hk];rfl
  have HV:=Hh hv;have c1:=fun w=>dTake_any t 0 2 w hs (by omega) (by omega) (by omega) (by omega)
  rw[hT]at c1;simp only[takeV]at c1;clear hT hv hbad hd hsm hb;go_enter Tryz.func239,Tryz.ntmps239;go_wp2_with(go_at_call 263;refine(c1 _).mono ?_;rintro e w1 ⟨rfl,rfl⟩)
  refine bodyPost_ret (v:=Vy 0 ⟨#[]⟩ 0 0 12) (by simp[results,Tryz.results239,go_sem,Vy]) rfl ⟨by rw[HV.out],?_⟩;exact(Below.refl _ _).alloc (Nat.le_refl _) _
 ·obtain⟨n,hn⟩:∃ n,tw isD (bL t)=n:=⟨_,rfl⟩
  rw[hn]at hbad hlen hpos
  have hT:Us t 0 2=(Zak (Xx (bL t)),(n:Int),true):=by
   unfold Us;rw[if_neg (by omega)];rw[show(0:Int).toNat=0 from rfl,List.drop_zero,Zeo,hn,if_pos]
   ·rw[Int.zero_add]
   ·refine⟨?_,by omega,by omega,?_⟩
    ·rw[hb,Zav _ hd];simp
    ·have hx:(Xx (bL t))[0]?=some (gB t 0:Int):=by rw[hb,Zav _ hd,List.getElem?_cons_zero]
     have hl:(Xx (bL t)).length=n:=by rw[Zeo];exact hn
     unfold Zdn;rw[hx,hl];simp;omega
  have hv:Ui t=Vy 2 (t.extract 0 n) (Zak (Xx (bL t))) n 0:=by
   have hk:Yh (bL t)=(2,0,n,n):=by
    rw[hb]at hn ⊢;rw[Jw,if_neg (by rw[hsm];simp),if_pos hd,if_neg (by rw[hn];omega),hn]
   unfold Ui;rw[hk];rfl
  have HV:=Hh hv;have c1:=fun w=>dTake_any t 0 2 w hs (by omega) (by omega) (by omega) (by omega)
  rw[hT]at c1;simp only[takeV]at c1;clear hT hv hbad hd hsm hb;generalize Zak (Xx (bL t))=V at *;have HN:=Hh hn;clear hn;have l1:(n:Int)≤(t.size:Int):=by omega
  go_enter Tryz.func239,Tryz.ntmps239;go_wp2_with(go_at_call 263;refine(c1 _).mono ?_;rintro e w1 ⟨rfl,rfl⟩)
  refine bodyPost_ret (v:=Vy 2 (t.extract 0 n) V n 0) (by simp[results,Tryz.results239,go_sem,Vy]) rfl ⟨by rw[HV.out],?_⟩;exact(Below.refl _ _).alloc (Nat.le_refl _) _
theorem dec_is(t:ByteArray)(i:Nat)(c:Int)(hc:0≤c)(hc2:c<128):((Utf8.decode t i).1:Int)=c↔(gB t i:Int)=c:=by
 constructor
 ·intro h
  have:=Zhx t i (by omega);omega
 ·intro h
  rw[Vi t i (by omega)];exact h
theorem small_dec(t:ByteArray)(i:Nat):decide (97≤((Utf8.decode t i).1:Int)∧((Utf8.decode t i).1:Int)≤122)=Zba (gB t i:Int):=by
 rw[Bool.eq_iff_iff,decide_eq_true_iff,Zfj];constructor
 ·intro h
  have:=Zhx t i (by omega);omega
 ·intro h
  rw[Vi t i (by omega)];exact h
theorem digit_dec(t:ByteArray)(i:Nat):decide (48≤((Utf8.decode t i).1:Int)∧((Utf8.decode t i).1:Int)≤57)=isD (gB t i:Int):=by
 rw[Bool.eq_iff_iff,decide_eq_true_iff,Zce];constructor
 ·intro h
  have:=Zhx t i (by omega);omega
 ·intro h
  rw[Vi t i (by omega)];exact h
theorem blank_dec(t:ByteArray)(i:Nat):decide (((Utf8.decode t i).1:Int)=32∨((Utf8.decode t i).1:Int)=9∨((Utf8.decode t i).1:Int)=10)=Zhq (gB t i:Int):=by
 rw[Bool.eq_iff_iff,decide_eq_true_iff,Zef,dec_is t i 32 (by omega) (by omega),dec_is t i 9 (by omega) (by omega),dec_is t i 10 (by omega) (by omega)]
theorem Zoy(t:ByteArray)(i:Nat)(c:Int)(hc:0≤c)(hc2:c<128):(((Utf8.decode t i).1:Int) == c)=((gB t i:Int) == c):=by
 rw[Bool.eq_iff_iff,beq_iff_eq,beq_iff_eq,dec_is t i c hc hc2]
theorem Zbk{w:World}{g:Nat}{t:TypeId}{a b c d e:Value}(h:Zd w g t #[a,b,c,d,e]):w.cell? ⟨g,0,none⟩=some a∧w.cell? ⟨g,1,none⟩=some b∧w.cell? ⟨g,2,none⟩=some c∧w.cell? ⟨g,3,none⟩=some d∧w.cell? ⟨g,4,none⟩=some e:=
 ⟨h.read 0,h.read 1,h.read 2,h.read 3,h.read 4⟩
theorem whole_extract(t:ByteArray):t.extract 0 t.size=t:=by simp
theorem Zaw{w:World}{g:Nat}{t:TypeId}{a b c d e:Value}(h:Zd w g t #[a,b,c,d,e]) :
  w.cell? ⟨g,0,none⟩=some a∧w.cell? ⟨g,1,none⟩=some b∧w.cell? ⟨g,2,none⟩=some c∧w.cell? ⟨g,3,none⟩=some d∧w.cell? ⟨g,4,none⟩=some e ∧
  w.frozen? ⟨g,0,none⟩=false∧w.frozen? ⟨g,1,none⟩=false∧w.frozen? ⟨g,2,none⟩=false∧w.frozen? ⟨g,3,none⟩=false∧w.frozen? ⟨g,4,none⟩=false:=
 ⟨h.read 0,h.read 1,h.read 2,h.read 3,h.read 4,h.thawed 0,h.thawed 1,h.thawed 2,h.thawed 3,h.thawed 4⟩
theorem Zil(w:World)(s:ByteArray)(cs:Array Value)(ty:TypeId)(q:Nat):Zd ((w.alloc (.cells cs ty)).iter s q) w.heap.size ty cs:=
 (Zd.made w ty cs).below (B:=(w.alloc (.cells cs ty)).heap.size) ((Below.refl _ _).alloc (Nat.le_refl _) _) (by simp)
theorem Zd.set5{w:World}{g:Nat}{t:TypeId}{a b c d e:Value}(h:Zd w g t #[a,b,c,d,e])(x0 x1 x2 x3 x4:Value) :
  Zd (((((w.setCell ⟨g,0,none⟩ x0).setCell ⟨g,1,none⟩ x1).setCell ⟨g,2,none⟩ x2).setCell ⟨g,3,none⟩ x3).setCell ⟨g,4,none⟩ x4) g t #[x0,x1,x2,x3,x4]:=
 ((((h.write 0 x0).write 1 x1).write 2 x2).write 3 x3).write 4 x4
theorem Below.set5{B g:Nat}{w0 w:World}(h:Below B w0 w)(hg:B≤g)(x0 x1 x2 x3 x4:Value) :
  Below B w0 (((((w.setCell ⟨g,0,none⟩ x0).setCell ⟨g,1,none⟩ x1).setCell ⟨g,2,none⟩ x2).setCell ⟨g,3,none⟩ x3).setCell ⟨g,4,none⟩ x4):=
 ((((h.setCell hg x0).setCell hg x1).setCell hg x2).setCell hg x3).setCell hg x4
theorem tkWord(t:ByteArray)(w:World)(hs:t.size≤140737488355328)(h0:0<t.size)(hd:Zba (gB t 0)=true) :
  Calls Tryz.prog 237 #[.string t] w fun e w'=>e=.returned (Ui t)∧Below w.heap.size w w':=by
 have hb:=Zpa t h0;have hlen:=Ziw Zba (bL t);rw[Vm]at hlen;obtain⟨n,hn⟩:∃ n,tw Zba (bL t)=n:=⟨_,rfl⟩
 have hv:Ui t=Vy 1 (t.extract 0 n) 0 n 0:=by
  have hk:Yh (bL t)=(1,0,n,n):=by
   rw[hb]at hn ⊢;rw[Jw,if_pos hd,hn]
  unfold Ui;rw[hk];rfl
 rw[hn]at hlen;have HV:=Hh hv;have HN:=Hh hn;have l1:(n:Int)≤(t.size:Int):=by omega
 clear hv hn hb hd;go_enter Tryz.func237,Tryz.ntmps237;go_wp2
 go_loopw [3] (fun c wr=>∃ pos:Nat,c=.int .i64 (t.size:Int)∧wr=(w.alloc (.cells #[.int .i64 0,.string ⟨#[]⟩,.int .i64 0,.int .i64 0,.int .i64 0] 85)).iter t pos∧pos≤t.size∧pos+tw Zba ((bL t).drop pos)=n) (fun _ wr=>t.size - wr.iterPos (w.heap.size+1))
 case atStart=>exact⟨0,rfl,rfl,by omega,by rw[List.drop_zero,Nat.zero_add];exact HN.out⟩
 case round=>
  obtain⟨pos,rfl,rfl,hps,he⟩:=hrel;by_cases hp:pos<t.size
  ·have hnx:=fun ty=>run_next_any (P:=Tryz.prog) (w.alloc (.cells #[.int .i64 0,.string ⟨#[]⟩,.int .i64 0,.int .i64 0,.int .i64 0] 85)) t pos ty hp
   rw[show(w.alloc (.cells #[.int .i64 0,.string ⟨#[]⟩,.int .i64 0,.int .i64 0,.int .i64 0] 85)).heap.size=w.heap.size+1 from by simp]at hnx;have c1:=fun w=>Znm ((Utf8.decode t pos).1:Int) w
   rw[small_dec]at c1;rw[Zkt t pos hp]at he;cases hsm:Zba (gB t pos:Int)with
   |true=>
    rw[hsm]at c1;rw[Ue _ hsm]at he;have hw1:(Utf8.decode t pos).2=1:=by rw[Zfj]at hsm;rw[Vi t pos (by omega)]
    have HE:=Hh he;have HW:=Hh hw1;clear he hw1 hsm;go_wp2_with(go_at_call 236;refine(c1 _).mono ?_;rintro e w1 ⟨rfl,rfl⟩)
    go_roundw
    case rel=>exact⟨pos+1,rfl,by rw[HW.out],by omega,by have:=HE.out;omega⟩
    case measure=>
     have:=HW.out;have e:w.heap.size+1=(w.alloc (.cells #[.int .i64 0,.string ⟨#[]⟩,.int .i64 0,.int .i64 0,.int .i64 0] 85)).heap.size:=by simp
     rw[e,World.iterPos_iter,World.iterPos_iter];omega
   |false=>
    rw[hsm]at c1;rw[Zdf _ hsm]at he;have he':pos=n:=by omega
    subst he';clear he hsm;obtain⟨k0,k1,k2,k3,k4,f0,f1,f2,f3,f4⟩:=Zaw (Zil w t #[.int .i64 0,.string ⟨#[]⟩,.int .i64 0,.int .i64 0,.int .i64 0] 85 (pos+(Utf8.decode t pos).2));go_wp2_with(go_at_call 236;refine(c1 _).mono ?_;rintro e w1 ⟨rfl,rfl⟩)
    have hF:=Zbk (Zd.set5 (Zil w t #[.int .i64 0,.string ⟨#[]⟩,.int .i64 0,.int .i64 0,.int .i64 0] 85 (pos+(Utf8.decode t pos).2)) (.int .i64 1) (.string (t.extract 0 pos)) (.int .i64 0) (.int .i64 0) (.int .i64 0));refine bodyPost_ret (v:=Vy 1 (t.extract 0 pos) 0 pos 0) (by simp[results,Tryz.results237,go_sem,Vy,hF]) rfl ⟨by rw[HV.out],?_⟩;exact Below.set5 (((Below.refl _ _).alloc (Nat.le_refl _) _).alloc (by simp) _) (Nat.le_refl _) _ _ _ _ _
  ·rw[Zhe t pos (by omega),Zjh]at he
   have he':t.size=n:=by omega
   have HE:=Hh he';have hnx:=fun ty=>run_next_end (P:=Tryz.prog) (w.alloc (.cells #[.int .i64 0,.string ⟨#[]⟩,.int .i64 0,.int .i64 0,.int .i64 0] 85)) t pos ty hp
   rw[show(w.alloc (.cells #[.int .i64 0,.string ⟨#[]⟩,.int .i64 0,.int .i64 0,.int .i64 0] 85)).heap.size=w.heap.size+1 from by simp]at hnx;clear he he';obtain⟨k0,k1,k2,k3,k4,f0,f1,f2,f3,f4⟩:=Zaw (Zil w t #[.int .i64 0,.string ⟨#[]⟩,.int .i64 0,.int .i64 0,.int .i64 0] 85 pos);go_wp2
   have hF:=Zbk (Zd.set5 (Zil w t #[.int .i64 0,.string ⟨#[]⟩,.int .i64 0,.int .i64 0,.int .i64 0] 85 pos) (.int .i64 1) (.string t) (.int .i64 0) (.int .i64 0) (.int .i64 0));refine bodyPost_ret (v:=Vy 1 t 0 t.size 0) (by simp[results,Tryz.results237,go_sem,Vy,hF]) rfl ⟨by rw[HV.out,←HE.out,whole_extract],?_⟩;exact Below.set5 (((Below.refl _ _).alloc (Nat.le_refl _) _).alloc (by simp) _) (Nat.le_refl _) _ _ _ _ _
open Go Go.RowKit
structure Zx(S:Nat→Prop)(w w':World):Prop where
 os:w'.os=w.os
 tape:w'.tape=w.tape
 output:w'.output=w.output
 size:w.heap.size≤w'.heap.size
 block:∀ k,k<w.heap.size→¬ S k→w'.heap[k]?=w.heap[k]?
theorem Zx.refl(S:Nat→Prop)(w:World):Zx S w w:=⟨rfl,rfl,rfl,Nat.le_refl _,fun _ _ _=>rfl⟩
theorem Zx.trans{S:Nat→Prop}{a b c:World}(h:Zx S a b)(k:Zx S b c):Zx S a c:=
 ⟨k.os.trans h.os,k.tape.trans h.tape,k.output.trans h.output,Nat.le_trans h.size k.size,fun i hi hn=>(k.block i (Nat.lt_of_lt_of_le hi h.size) hn).trans (h.block i hi hn)⟩
theorem Zx.mono{S T:Nat→Prop}{a b:World}(h:Zx S a b)(hs:∀ k,S k→T k):Zx T a b:=⟨h.os,h.tape,h.output,h.size,fun k hk hn=>h.block k hk fun c=>hn (hs k c)⟩
theorem Zx.of_below{S:Nat→Prop}{a b:World}(h:Below a.heap.size a b):Zx S a b:=⟨h.os,h.tape,h.output,h.size,fun k hk _=>h.block k hk⟩
theorem Zx.below{S:Nat→Prop}{a b:World}(h:Zx S a b){B:Nat}(hB:B≤a.heap.size)(hs:∀ k,S k→B≤k):Below B a b:=
 ⟨h.os,h.tape,h.output,h.size,fun k hk=>h.block k (by omega) fun c=>by have:=hs k c;omega⟩
theorem Zx.setCell{S:Nat→Prop}{a b:World}(h:Zx S a b){p:Addr}(hp:S p.block)(u:Value):Zx S a (b.setCell p u):=
 h.trans ⟨rfl,rfl,rfl,by simp[World.setCell],fun k _ hn=>Below.heap_setCell _ _ _ _ (fun c=>hn (c ▸ hp))⟩
theorem Zx.alloc{S:Nat→Prop}{a b:World}(h:Zx S a b)(o:Obj):Zx S a (b.alloc o):=
 h.trans ⟨rfl,rfl,rfl,by simp,fun k hk _=>Below.heap_alloc _ _ _ hk⟩
theorem Zx.drew{S:Nat→Prop}{a b:World}(h:Zx S a b):Zx S a b.drew:=⟨h.os,h.tape,h.output,h.size,h.block⟩
theorem Zx.grown{S:Nat→Prop}{a b c:World}(h:Zx S a b){row:Option Nat}(hg:b.grownBy c row)(hr:∀ k,row=some k→S k):Zx S a c:=
 h.trans ⟨hg.os,hg.tape,hg.output,hg.size,fun k hk hn=>hg.block k hk fun c=>hn (hr k c.symm)⟩
theorem Zx.whole{S:Nat→Prop}{a b:World}(h:Zx S a b){g:Nat}{t:TypeId}{cs:Array Value}(hw:Zd a g t cs)(hg:¬ S g):Zd b g t cs:=by
 unfold Zd;rw[h.block g hw.inside hg];exact hw
theorem Zx.owns{S:Nat→Prop}{a b:World}(h:Zx S a b){base:Nat}{e:TypeId}{size:Nat}{v:Value}{n:Nat}{xs:List Value}(ho:a.ownsRow base e size v n xs)(hv:∀ k,v.ownBlock=some k→¬ S k):b.ownsRow base e size v n xs:=by
 obtain⟨h1,h2⟩:=id ho;refine⟨h1,?_⟩;rcases h2 with h2 | ⟨g,cap,cur,rfl,hg,hh,r⟩
 ·exact .inl h2
 ·refine .inr ⟨g,cap,cur,rfl,hg,?_,r⟩
  rw[h.block g (ho.lt g rfl).2 (hv g rfl)];exact hh
theorem Zfk{w w':World}{row:Option Nat}(hg:w.grownBy w' row){g:Nat}{t:TypeId}{cs:Array Value}(hw:Zd w g t cs)(hn:row≠some g):Zd w' g t cs:=by
 unfold Zd;rw[hg.block g hw.inside (fun c=>hn c.symm)];exact hw
theorem Zay{w:World}{base:Nat}{e:TypeId}{size:Nat}{v:Value}{n:Nat}{xs:List Value}(h:w.ownsRow base e size v n xs){p:Addr}(hp:v.ownBlock≠some p.block)(u:Value):(w.setCell p u).ownsRow base e size v n xs:=
 (Zx.setCell (S:=fun k=>k=p.block) (Zx.refl _ w) rfl u).owns h fun k hk c=>hp (by rw[hk,c])
end Go.Proofs.YtljdgdphldckhaaGreat
