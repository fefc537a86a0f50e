/-
  No conditions but those that each theorem names.
-/
import Derived.Test.YtljdgdphldckhaaGreatQU19
set_option maxRecDepth 20000
set_option maxHeartbeats 12800000
namespace Go.Proofs.YtljdgdphldckhaaGreat
open Go.ChangeShapes Go.WideShapes Go.ChangeAt Go.RowKit
set_option linter.unusedVariables false
set_option linter.unusedSimpArgs false
theorem idx_hit(v:TokV):∀(ws:List ByteArray)(k:Nat)(hk:k<ws.length),(∀ j,j<k→isT v (ws.getD j ⟨#[]⟩)=false)→isT v (ws.getD k ⟨#[]⟩)=true→Zac v ws=k+1
 |[],k,hk,_,_=>by cases hk
 |t::r,0,hk,_,h=>if_pos h
 |t::r,k+1,hk,hj,h=>by
  have h0:isT v t=false:=hj 0 (by omega);have ih:=idx_hit v r k (by rw[List.length_cons]at hk;omega) (fun j hjk=>hj (j+1) (by omega)) h;unfold Zac;rw[if_neg (by rw[h0];decide),if_neg (by rw[ih];omega),ih]
theorem idx_miss(v:TokV):∀(ws:List ByteArray),(∀ j,j<ws.length→isT v (ws.getD j ⟨#[]⟩)=false)→Zac v ws=0
 |[],_=>rfl
 |t::r,hj=>by
  have h0:isT v t=false:=hj 0 (by rw[List.length_cons];omega);have ih:=idx_miss v r (fun j hjk=>hj (j+1) (by rw[List.length_cons];omega));unfold Zac;rw[if_neg (by rw[h0];decide),if_pos ih]
theorem Zmj(L:List TokV)(ws:List ByteArray)(st:St)(k:Nat)(hk:k<ws.length)(hj:∀ j,j<k→isS L (ws.getD j ⟨#[]⟩) st=false)(h:isS L (ws.getD k ⟨#[]⟩) st=true) :
  Zj L ws st=k+1∧Yu L ws st=Xy L (ws.getD k ⟨#[]⟩) st:=by
 cases st with
 |ok a d=>
  have hi:=idx_hit (Zv L a) ws k hk hj h;refine⟨hi,?_⟩;rw[show Yu L ws (.ok a d)=.ok (onA L a) d from if_neg (by rw[hi];omega)];show St.ok (onA L a) d=.ok (Zbq L a (ws.getD k ⟨#[]⟩)) d;unfold Zbq;rw[if_pos (show isT (Zv L a) (ws.getD k ⟨#[]⟩)=true from h)]
 |bad F=>cases h
theorem find_miss(L:List TokV)(ws:List ByteArray)(st:St)(hj:∀ j,j<ws.length→isS L (ws.getD j ⟨#[]⟩) st=false):Zj L ws st=0:=by
 cases st with
 |ok a d=>exact idx_miss (Zv L a) ws hj
 |bad F=>rfl
theorem Vv{L:List TokV}{t:ByteArray}{st:St}(h:isS L t st=false):Xy L t st=st:=by
 cases st with
 |ok a d=>
  show St.ok (Zbq L a t) d=.ok a d;unfold Zbq;rw[if_neg (by rw[show isT (Zv L a) t=false from h];decide)]
 |bad F=>rfl
def Zoe(w:World)(g:Nat)(ws:List ByteArray):Prop:=Zd w g 9 (ws.map Value.string).toArray
theorem Zoe.at_{w:World}{g:Nat}{ws:List ByteArray}(h:Zoe w g ws){k:Nat}(hk:k<ws.length):w.cell? ⟨g,k,none⟩=some (.string (ws.getD k ⟨#[]⟩)):=by
 rw[Zd.read h k];simp[List.getD,hk]
theorem xfind(w:World)(q c r K:Nat)(L:List TokV)(st:St)(ws:List ByteArray)(g n m:Nat)(h:PAt w q c r K L st)(hw:Zoe w g ws)(hq:g≠q)(hc:g≠c)(hn:n=ws.length)(hl:n≤64) :
  Calls Tryz.prog 147 #[.pointer (some ⟨q,0,none⟩),.slice (some ⟨g,0,none⟩) n m] w (Xt w q c r K L (Yu L ws st) (.int .i64 (Zj L ws st))):=by
 have H:=Hh (And.intro hw (And.intro hq (And.intro hc hn)));have hP:=Hh (Wb.start h);clear h hw hq hc hn;have l64:(n:Int)≤64:=by omega
 go_enter Tryz.func147,Tryz.ntmps147;go_wp2
 go_loopw [9] (fun i wr=>∃ k:Nat,i=.int .i64 k∧k≤n∧Wb w wr q c r K L st∧∀ j,j<k→isS L (ws.getD j ⟨#[]⟩) st=false) (fun i _=>n - (intOf i).toNat)
 case atStart=>exact⟨0,by go_num,Nat.zero_le _,hP.out,fun j hj=>by omega⟩
 case round=>
  obtain⟨k,rfl,hk,hm,hj⟩:=hrel;obtain⟨H1,H2,H3,H4⟩:=H.out;have HJ:=Hh hj;have HM:=Hh hm;have hcell:=hm.at_.cell;have HW:Zoe wr g ws:=hm.keeps.whole H1 (by omega);have HN:=Hh H4;have hnw:k<n→k<ws.length:=fun h=>by omega
  have hwn:¬ k<n→∀ j,j<ws.length→j<k:=fun h j hj=>by omega
  clear H4;by_cases hlt:k<n
  ·have hx:=HW.at_ (k:=k) (hnw hlt)
   have hi:=HW.inside;generalize hv:isS L (ws.getD k ⟨#[]⟩) st=b;have ht:∀ w,PAt w q c r K L st→Calls Tryz.prog 136 #[Uj c st,.string (ws.getD k ⟨#[]⟩)] w (Xt w q c r K L (Xy L (ws.getD k ⟨#[]⟩) st) (.bool b)):=fun w h=>by rw[←hv];exact Zbc w q c r K L st _ h
   generalize hX:ws.getD k ⟨#[]⟩=x at *;have HV:=Hh hv;have HX:=Hh hX;clear hX;have hlt':(k:Int)<(n:Int):=by omega
   have HK:=Hh (hnw hlt);clear hm hj H1 H2 H3 HW hv hk hnw hwn;cases b
   ·go_wp2_with(go_at_call 136;refine(ht _ HM.out.at_).mono ?_;rintro e w1 ⟨rfl,m1⟩;have M1:=Hh (HM.out.then m1);clear m1)
    go_roundw
    case rel=>
     have m:=M1.out;rw[Vv HV.out]at m;refine⟨k+1,by go_num,by omega,m,fun j hj=>?_⟩;by_cases e:j=k
     ·subst e;rw[HX.out];exact HV.out
     ·exact HJ.out j (by omega)
    case measure=>simp[intOf];omega
   ·go_wp2_with(go_at_call 136;refine(ht _ HM.out.at_).mono ?_;rintro e w1 ⟨rfl,m1⟩;have M1:=Hh (HM.out.then m1);clear m1)
    go_ret;obtain⟨e1,e2⟩:=Zmj L ws st k HK.out HJ.out (by rw[HX.out];exact HV.out);rw[e1,e2,HX.out];exact⟨rI (by omega),M1.out⟩
  ·have e:=find_miss L ws st (fun j hj=>HJ.out j (hwn hlt j hj))
   have HE:=Hh e;have hge:(n:Int)≤(k:Int):=by omega
   clear hm hj H1 H2 H3 HW e hnw hwn;go_wp2
   go_ret;rw[HE.out,Zbj L HE.out];exact⟨rfl,HM.out⟩
theorem xone(w:World)(q c r K:Nat)(L:List TokV)(st:St)(ws:List ByteArray)(g n m:Nat)(h:PAt w q c r K L st)(hw:Zoe w g ws)(hq:g≠q)(hc:g≠c)(hn:n=ws.length)(hl:n≤64) :
  Calls Tryz.prog 257 #[.pointer (some ⟨q,0,none⟩),.slice (some ⟨g,0,none⟩) n m] w (Xt w q c r K L (Zm L ws st) (.int .i64 (Zj L ws st))):=by
 have hf:=xfind w q c r K L st ws g n m h hw hq hc hn hl;have hb:=Zeg;have hF:Zj L ws st=0→Yu L ws st=st:=Zbj L;unfold Zm;generalize hk:Zj L ws st=k at *;have HF:=Hh hF;have HK:=Hh hk;clear h hw hq hc hn hl hb hF hk;by_cases h0:k=0
 ·subst h0
  rw[if_pos rfl];rw[HF.out rfl]at hf;rw[←wrong_note];generalize hv:Zlb L st=v;have hw:∀ w,PAt w q c r K L st→Calls Tryz.prog 135 #[Uj c st] w fun e w'=>e=.returned (Zq v)∧Below w.heap.size w w':=fun w h=>by rw[←hv];exact xWrong w q c r K L st h
  clear hv;go_enter Tryz.func257,Tryz.ntmps257;go_wp2_with(first
 |(go_at_call 147;refine hf.mono ?_;rintro e w1 ⟨rfl,m1⟩;have hcell:=m1.at_.cell;have M1:=Hh m1;clear m1)
 |(go_at_call 135;refine(hw _ M1.out.at_).mono ?_;rintro e w2 ⟨rfl,b2⟩;have M2:=Hh (M1.out.next b2);clear b2)
 |(go_at_call 134;refine(xNote _ q c r K L _ v M2.out.at_).mono ?_;rintro e w3 ⟨rfl,m3⟩;have M3:=Hh (M2.out.then m3);clear m3))
  go_ret;exact⟨rfl,M3.out⟩
 ·rw[if_neg h0]
  have q0:((k:Int) == 0)=false:=by rw[beq_eq_false_iff_ne];omega
  clear h0;go_enter Tryz.func257,Tryz.ntmps257;go_wp2_with(go_at_call 147;refine hf.mono ?_;rintro e w1 ⟨rfl,m1⟩;have M1:=Hh m1;clear m1)
  go_ret;exact⟨rfl,M1.out⟩
theorem xoneB(W:World)(q c r K G:Nat)(L:List TokV)(st:St)(ws:List ByteArray)(n m:Nat)(cs:Array Value)(hcs:cs=(ws.map Value.string).toArray)(hG:G=W.heap.size)(h:PAt W q c r K L st)(hn:n=ws.length)(hl:n≤64) :
  Calls Tryz.prog 257 #[.pointer (some ⟨q,0,none⟩),.slice (some ⟨G,0,none⟩) n m] (W.alloc (.cells cs 9)) fun e w'=>e=.returned (.int .i64 (Zj L ws st))∧Wb W w' q c r K L (Zm L ws st):=by
 subst hcs hG;have M1:=(Wb.start h).next (Zh W (.cells (ws.map Value.string).toArray 9));have hq:=h.whole.inside;refine(xone _ q c r K L st ws W.heap.size n m M1.at_ (Zd.made _ _ _) (by omega) (by have:=h.cin;omega) hn hl).mono ?_;rintro e w' ⟨h1,h2⟩;exact⟨h1,M1.then h2⟩
theorem xfindB(W:World)(q c r K G:Nat)(L:List TokV)(st:St)(ws:List ByteArray)(n m:Nat)(cs:Array Value)(hcs:cs=(ws.map Value.string).toArray)(hG:G=W.heap.size)(h:PAt W q c r K L st)(hn:n=ws.length)(hl:n≤64) :
  Calls Tryz.prog 147 #[.pointer (some ⟨q,0,none⟩),.slice (some ⟨G,0,none⟩) n m] (W.alloc (.cells cs 9)) fun e w'=>e=.returned (.int .i64 (Zj L ws st))∧Wb W w' q c r K L (Yu L ws st):=by
 subst hcs hG;have M1:=(Wb.start h).next (Zh W (.cells (ws.map Value.string).toArray 9));have hq:=h.whole.inside;refine(xfind _ q c r K L st ws W.heap.size n m M1.at_ (Zd.made _ _ _) (by omega) (by have:=h.cin;omega) hn hl).mono ?_;rintro e w' ⟨h1,h2⟩;exact⟨h1,M1.then h2⟩
def intF(L:List TokV):St→Int×Nat×Nat
 |.ok a _=>We L a 2
 |.bad _=>Zbm
def intM(L:List TokV):St→St
 |.ok a d=>.ok (Vs L a 2) d
 |.bad F=>.bad F
def nameF(L:List TokV):St→Int×Nat×Nat
 |.ok a _=>We L a 3
 |.bad _=>Zbm
def nameM(L:List TokV):St→St
 |.ok a d=>.ok (Vs L a 3) d
 |.bad F=>.bad F
def sigF(L:List TokV):St→Int×Nat×Nat
 |.ok a _=>Zbd L a
 |.bad _=>Zbm
def sigM(L:List TokV):St→St
 |.ok a d=>.ok (Zdv L a) d
 |.bad F=>.bad F
theorem int_note(L:List TokV)(st:St):Uh (intF L st) (intM L st)=Zcu L st:=by cases st<;>rfl
theorem name_note(L:List TokV)(st:St):Uh (nameF L st) (nameM L st)=Jt L st:=by cases st<;>rfl
theorem sig_note(L:List TokV)(st:St):Uh (sigF L st) (sigM L st)=Zal L st:=by cases st<;>rfl
theorem xInt(w:World)(q c r K:Nat)(L:List TokV)(st:St)(h:PAt w q c r K L st) :
  Calls Tryz.prog 180 #[Uj c st] w (Xt w q c r K L (intM L st) (.tuple #[.int .i64 (Zfz L st),Zq (intF L st)])):=by
 cases st with
 |ok a d=>exact(cInt w c r K L a d (h.cur a d rfl).2.2).mono fun e w' p=>⟨p.1,h.step p.2⟩
 |bad F=>exact(nInt w).mono fun e w' p=>⟨p.1,(Wb.start h).next p.2⟩
theorem xName(w:World)(q c r K:Nat)(L:List TokV)(st:St)(h:PAt w q c r K L st) :
  Calls Tryz.prog 177 #[Uj c st] w (Xt w q c r K L (nameM L st) (.tuple #[.string (Zfu L st),Zq (nameF L st)])):=by
 cases st with
 |ok a d=>exact(cName w c r K L a d (h.cur a d rfl).2.2).mono fun e w' p=>⟨p.1,h.step p.2⟩
 |bad F=>exact(nName w).mono fun e w' p=>⟨p.1,(Wb.start h).next p.2⟩
theorem xSigned(w:World)(q c r K:Nat)(L:List TokV)(st:St)(h:PAt w q c r K L st) :
  Calls Tryz.prog 181 #[Uj c st] w (Xt w q c r K L (sigM L st) (.tuple #[.int .i64 (Zbt L st),Zq (sigF L st)])):=by
 cases st with
 |ok a d=>exact(cSigned w c r K L a d (h.cur a d rfl).2.2).mono fun e w' p=>⟨p.1,h.step p.2⟩
 |bad F=>exact(nSigned w).mono fun e w' p=>⟨p.1,(Wb.start h).next p.2⟩
theorem xreadInt(w:World)(q c r K:Nat)(L:List TokV)(st:St)(h:PAt w q c r K L st) :
  Calls Tryz.prog 179 #[.pointer (some ⟨q,0,none⟩),.func (.func 180) #[Uj c st] #[]] w (Xt w q c r K L (Zcu L st) (.int .i64 (Zfz L st))):=by
 have H:=Hh h;rw[←int_note];have hi:=xInt w q c r K L st h;generalize intF L st=F at *;obtain⟨f0,f1,f2⟩:=F;have qin:=h.whole.inside;have cin:=h.cin;have rin:=h.rin;clear h;unfold Zq at hi;go_enter Tryz.func179,Tryz.ntmps179;go_wp2_with(first
 |(go_at_call 180;refine hi.mono ?_;rintro e w1 ⟨rfl,m1⟩;have M1:=Hh (m1.next (Zh w1 (.cells #[.int .i64 f0,.int .i64 (f1:Int),.int .i64 (f2:Int)] 29)));clear m1)
 |(go_at_call 134;refine(xNote _ q c r K L _ (f0,f1,f2) M1.out.at_).mono ?_;rintro e w2 ⟨rfl,m2⟩;have M2:=Hh (M1.out.then m2);clear m2))
 go_ret;exact⟨rfl,M2.out⟩
theorem xreadName(w:World)(q c r K:Nat)(L:List TokV)(st:St)(h:PAt w q c r K L st) :
  Calls Tryz.prog 176 #[.pointer (some ⟨q,0,none⟩),.func (.func 177) #[Uj c st] #[]] w (Xt w q c r K L (Jt L st) (.string (Zfu L st))):=by
 have H:=Hh h;rw[←name_note];have hi:=xName w q c r K L st h;generalize nameF L st=F at *;obtain⟨f0,f1,f2⟩:=F;have qin:=h.whole.inside;have cin:=h.cin;have rin:=h.rin;clear h;unfold Zq at hi;go_enter Tryz.func176,Tryz.ntmps176;go_wp2_with(first
 |(go_at_call 177;refine hi.mono ?_;rintro e w1 ⟨rfl,m1⟩;have M1:=Hh (m1.next (Zh w1 (.cells #[.int .i64 f0,.int .i64 (f1:Int),.int .i64 (f2:Int)] 29)));clear m1)
 |(go_at_call 134;refine(xNote _ q c r K L _ (f0,f1,f2) M1.out.at_).mono ?_;rintro e w2 ⟨rfl,m2⟩;have M2:=Hh (M1.out.then m2);clear m2))
 go_ret;exact⟨rfl,M2.out⟩
theorem Zjd(w:World)(q c r K:Nat)(L:List TokV)(st:St)(h:PAt w q c r K L st) :
  Calls Tryz.prog 179 #[.pointer (some ⟨q,0,none⟩),.func (.func 181) #[Uj c st] #[]] w (Xt w q c r K L (Zal L st) (.int .i64 (Zbt L st))):=by
 have H:=Hh h;rw[←sig_note];have hi:=xSigned w q c r K L st h;generalize sigF L st=F at *;obtain⟨f0,f1,f2⟩:=F;have qin:=h.whole.inside;have cin:=h.cin;have rin:=h.rin;clear h;unfold Zq at hi;go_enter Tryz.func179,Tryz.ntmps179;go_wp2_with(first
 |(go_at_call 181;refine hi.mono ?_;rintro e w1 ⟨rfl,m1⟩;have M1:=Hh (m1.next (Zh w1 (.cells #[.int .i64 f0,.int .i64 (f1:Int),.int .i64 (f2:Int)] 29)));clear m1)
 |(go_at_call 134;refine(xNote _ q c r K L _ (f0,f1,f2) M1.out.at_).mono ?_;rintro e w2 ⟨rfl,m2⟩;have M2:=Hh (M1.out.then m2);clear m2))
 go_ret;exact⟨rfl,M2.out⟩
theorem Znk(L:List TokV)(t:ByteArray)(st:St)(h:isS L t st=true):Uh (downV L st) (Zkq st)=Zhd L t st:=by
 cases st with
 |ok a d=>exact(if_pos h).symm
 |bad F=>cases h
theorem deep_not(L:List TokV)(t:ByteArray)(st:St)(h:isS L t st=false):Zhd L t st=st:=by
 cases st with
 |ok a d=>exact if_neg (by rw[show isT (Zv L a) t=false from h];decide)
 |bad F=>rfl
theorem xdescend(w:World)(q c r K:Nat)(L:List TokV)(st:St)(t:ByteArray)(h:PAt w q c r K L st) :
  Calls Tryz.prog 255 #[.pointer (some ⟨q,0,none⟩),.string t] w (Xt w q c r K L (Vl L t st) (.tuple #[])):=by
 have hc:=h.cell;have H:=Hh h;have hi:=xIs w q c r K L st t h;unfold Vl;cases hb:isS L t st
 ·rw[deep_not L t st hb]
  rw[hb]at hi;clear hb h;go_enter Tryz.func255,Tryz.ntmps255;go_wp2_with(first
 |(go_at_call 174;refine hi.mono ?_;rintro e w1 ⟨rfl,b1⟩;have M1:=Hh ((Wb.start H.out).next b1);clear b1)
 |(go_at_call 178;refine(xwant _ q c r K L _ t M1.out.at_).mono ?_;rintro e w2 ⟨rfl,m2⟩;have M2:=Hh (M1.out.then m2);clear m2))
  go_end0
  exact⟨rfl,M2.out⟩
 ·rw[hb]at hi
  rw[←Znk L t st hb];generalize hv:downV L st=v;have hd:∀ w,PAt w q c r K L st→Calls Tryz.prog 278 #[Uj c st] w (Xt w q c r K L (Zkq st) (Zq v)):=fun w h=>by rw[←hv];exact xDown w q c r K L st h
  clear hb h hv;go_enter Tryz.func255,Tryz.ntmps255;go_wp2_with(first
 |(go_at_call 174;refine hi.mono ?_;rintro e w1 ⟨rfl,b1⟩;have hc1:=(H.out.below b1).cell;have M1:=Hh ((Wb.start H.out).next b1);clear b1)
 |(go_at_call 278;refine(hd _ M1.out.at_).mono ?_;rintro e w2 ⟨rfl,m2⟩;have M2:=Hh (M1.out.then m2);clear m2)
 |(go_at_call 134;refine(xNote _ q c r K L _ v M2.out.at_).mono ?_;rintro e w3 ⟨rfl,m3⟩;have M3:=Hh (M2.out.then m3);clear m3)
 |(go_at_call 178;refine(xwant _ q c r K L _ t M3.out.at_).mono ?_;rintro e w4 ⟨rfl,m4⟩;have M4:=Hh (M3.out.then m4);clear m4))
  go_end0
  exact⟨rfl,M4.out⟩
theorem xascend(w:World)(q c r K:Nat)(L:List TokV)(st:St)(t:ByteArray)(h:PAt w q c r K L st) :
  Calls Tryz.prog 256 #[.pointer (some ⟨q,0,none⟩),.string t] w (Xt w q c r K L (Zft L t st) (.tuple #[])):=by
 have H:=Hh h;have hw:=xwant w q c r K L st t h;unfold Zft;generalize Yw L t st=s at *;clear h;go_enter Tryz.func256,Tryz.ntmps256;go_wp2_with(first
 |(go_at_call 178;refine hw.mono ?_;rintro e w1 ⟨rfl,m1⟩;have hcell:=m1.at_.cell;have M1:=Hh m1;clear m1)
 |(go_at_call 279;refine(xUp _ q c r K L _ M1.out.at_).mono ?_;rintro e w2 ⟨rfl,m2⟩;have M2:=Hh (M1.out.then m2);clear m2))
 go_end0
 exact⟨rfl,M2.out⟩
theorem xside(w:World)(q c r K:Nat)(L:List TokV)(st:St)(h:PAt w q c r K L st) :
  Calls Tryz.prog 220 #[.pointer (some ⟨q,0,none⟩)] w (Xt w q c r K L (Zm L Zg st) (.int .i64 (Zj L Zg st))):=by
 have qin:=h.whole.inside;have hf:=xoneB w q c r K _ L st Zg 3 3 _ rfl rfl h rfl (by decide);clear h;go_enter Tryz.func220,Tryz.ntmps220;go_wp2_with(go_at_call 257;refine hf.mono ?_;rintro e w1 ⟨rfl,m1⟩;have M1:=Hh m1;clear m1)
 go_ret;exact⟨rfl,M1.out⟩
theorem xop(w:World)(q c r K:Nat)(L:List TokV)(st:St)(h:PAt w q c r K L st) :
  Calls Tryz.prog 280 #[.pointer (some ⟨q,0,none⟩)] w (Xt w q c r K L (Zm L wOp st) (.int .i64 (Zj L wOp st))):=by
 have qin:=h.whole.inside;have hf:=xoneB w q c r K _ L st wOp 6 6 _ rfl rfl h rfl (by decide);clear h;go_enter Tryz.func280,Tryz.ntmps280;go_wp2_with(go_at_call 257;refine hf.mono ?_;rintro e w1 ⟨rfl,m1⟩;have M1:=Hh m1;clear m1)
 go_ret;exact⟨rfl,M1.out⟩
end Go.Proofs.YtljdgdphldckhaaGreat
