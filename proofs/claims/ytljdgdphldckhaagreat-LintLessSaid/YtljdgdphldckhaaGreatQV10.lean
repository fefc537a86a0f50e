/-
  No conditions but those that each theorem names.
-/
import Derived.Test.YtljdgdphldckhaaGreatQV9
set_option maxRecDepth 20000
set_option maxHeartbeats 12800000
namespace Go.Proofs.YtljdgdphldckhaaGreat
open Go.ChangeShapes Go.WideShapes Go.ChangeAt Go.RowKit
set_option linter.unusedVariables false
set_option linter.unusedSimpArgs false
def Ub:Int×Nat×Nat:=(1,0,0)
theorem nStands(w:World):Calls Tryz.prog 172 #[.pointer none] w fun e w'=>e=.returned (.bool false)∧w=w':=by
 go_enter Tryz.func172,Tryz.ntmps172;go_wp2
 go_ret;exact⟨rfl,rfl⟩
theorem nPeek(w:World):Calls Tryz.prog 133 #[.pointer none] w fun e w'=>e=.returned (Vk zTok)∧Below w.heap.size w w':=by
 go_enter Tryz.func133,Tryz.ntmps133;go_wp2_with(go_at_call 172;refine(nStands _).mono ?_;rintro e w1 ⟨rfl,rfl⟩)
 refine bodyPost_ret (v:=Vk zTok) (by simp[results,Tryz.results133,go_sem,Vk,zTok]) rfl ⟨rfl,?_⟩;exact Za _ _
theorem nHere(w:World)(E:Int):Calls Tryz.prog 173 #[.pointer none,.int .i64 E] w fun e w'=>e=.returned (Zi Ub)∧Below w.heap.size w w':=by
 go_enter Tryz.func173,Tryz.ntmps173;go_wp2
 refine bodyPost_ret (v:=Zi Ub) (by simp[results,Tryz.results173,go_sem,Zi,Ub]) rfl ⟨rfl,?_⟩;exact Za _ _
theorem nIs(w:World)(t:ByteArray):Calls Tryz.prog 174 #[.pointer none,.string t] w fun e w'=>e=.returned (.bool false)∧Below w.heap.size w w':=by
 go_enter Tryz.func174,Tryz.ntmps174;go_wp2_with(go_at_call 133;refine(nPeek _).mono ?_;rintro e w2 ⟨rfl,b2⟩;have B2:=Hh b2;clear b2;simp only[Vk,zTok])
 go_ret;exact⟨rfl,B2.out.alloc B2.out.size _⟩
theorem nTake(w:World)(t:ByteArray):Calls Tryz.prog 136 #[.pointer none,.string t] w fun e w'=>e=.returned (.bool false)∧Below w.heap.size w w':=by
 go_enter Tryz.func136,Tryz.ntmps136;go_wp2_with(go_at_call 174;refine(nIs _ _).mono ?_;rintro e w2 ⟨rfl,b2⟩;have B2:=Hh b2;clear b2)
 go_ret;exact⟨rfl,B2.out⟩
theorem nWrong(w:World):Calls Tryz.prog 135 #[.pointer none] w fun e w'=>e=.returned (Zi Ub)∧Below w.heap.size w w':=by
 have F:=Hh (Zb.made w 29 #[.int .i64 0,.int .i64 0,.int .i64 0]);have hfd:=fun w=>Zcx 0 0 0 0 ⟨#[]⟩ w
 go_enter Tryz.func135,Tryz.ntmps135;go_wp2_with(first
 |(go_at_call 133;refine(nPeek _).mono ?_;rintro e w2 ⟨rfl,b2⟩;have W2:=Hh (F.out.below b2 (by simp));have B2:=Hh (Xq (Za _ _) b2);clear b2;simp only[Vk,zTok,Int.ofNat_zero,Int.natCast_zero])
 |(go_at_call 173;refine(nHere _ _).mono ?_;rintro e w3 ⟨rfl,b3⟩;have W3:=Hh (W2.out.below b3 W2.out.inside);obtain⟨k0,k1,k2,f0,f1,f2⟩:=Zl W3.out;have hz:=W3.out.inside;have B3:=Hh (Xq B2.out b3);clear b3;simp only[Zi,Ub]))
 have hF:=Zl (Zb.set3 W3.out (.int .i64 1) (.int .i64 0) (.int .i64 0));refine bodyPost_ret (v:=Zi Ub) (by simp[results,Tryz.results135,go_sem,hF,Zi,Ub]) rfl ⟨rfl,?_⟩;exact Below.set3 B3.out (Nat.le_refl _) _ _ _
theorem nWant(w:World)(t:ByteArray):Calls Tryz.prog 210 #[.pointer none,.string t] w fun e w'=>e=.returned (Zi Ub)∧Below w.heap.size w w':=by
 have F:=Hh (Zb.made w 29 #[.int .i64 0,.int .i64 0,.int .i64 0]);go_enter Tryz.func210,Tryz.ntmps210;go_wp2_with(first
 |(go_at_call 136;refine(nTake _ _).mono ?_;rintro e w2 ⟨rfl,b2⟩;have W2:=Hh (F.out.below b2 (by simp));have B2:=Hh (Xq (Za _ _) b2);clear b2)
 |(go_at_call 135;refine(nWrong _).mono ?_;rintro e w3 ⟨rfl,b3⟩;have W3:=Hh (W2.out.below b3 W2.out.inside);obtain⟨k0,k1,k2,f0,f1,f2⟩:=Zl W3.out;have hz:=W3.out.inside;have B3:=Hh (Xq B2.out b3);clear b3;simp only[Zi,Ub]))
 have hF:=Zl (Zb.set3 W3.out (.int .i64 1) (.int .i64 0) (.int .i64 0));refine bodyPost_ret (v:=Zi Ub) (by simp[results,Tryz.results210,go_sem,hF,Zi,Ub]) rfl ⟨rfl,?_⟩;exact Below.set3 B3.out (Nat.le_refl _) _ _ _
theorem nKind(w:World)(k:Int)(hk:0<k):Calls Tryz.prog 209 #[.pointer none,.int .i64 k] w fun e w'=>e=.returned (.tuple #[Vk zTok,Zi Ub])∧Below w.heap.size w w':=by
 have T0:=Hh (Two.start w 85 #[.int .i64 0,.string ⟨#[]⟩,.int .i64 0,.int .i64 0,.int .i64 0] 29 #[.int .i64 0,.int .i64 0,.int .i64 0]);have hfd:=fun w=>Zcx 0 0 0 0 ⟨#[]⟩ w
 have q0:((0:Int) != k)=true:=by rw[bne_iff_ne];omega
 go_enter Tryz.func209,Tryz.ntmps209;go_wp2_with(first
 |(go_at_call 133;refine(nPeek _).mono ?_;rintro e w2 ⟨rfl,b2⟩;have T2:=Hh (T0.out.next b2);clear b2;simp only[Vk,zTok,Int.ofNat_zero,Int.natCast_zero])
 |(go_at_call 135;refine(nWrong _).mono ?_;rintro e w3 ⟨rfl,b3⟩;have T3:=Hh (T2.out.next b3);obtain⟨k0,k1,k2,k3,k4,f0,f1,f2,f3,f4⟩:=Ud T3.out.k0;obtain⟨g0,g1,g2,z0,z1,z2⟩:=Zl T3.out.k1;have hz:=T3.out.k1.inside;clear b3;simp only[Zi,Ub]))
 have hFG:=two_set T3.out.k0 T3.out.k1 (.int .i64 0) (.string ⟨#[]⟩) (.int .i64 0) (.int .i64 0) (.int .i64 0) (.int .i64 1) (.int .i64 0) (.int .i64 0);have hF:=Jh hFG.1;have hG:=Zl hFG.2;refine bodyPost_ret (v:=.tuple #[Vk zTok,Zi Ub]) (by simp[results,Tryz.results209,go_sem,hF,hG,Zi,Ub,zTok,Vk]) rfl ⟨rfl,?_⟩;exact Below.set3 (Below.set5 T3.out.below (Nat.le_refl _) _ _ _ _ _) (Nat.le_succ _) _ _ _
theorem nInt(w:World):Calls Tryz.prog 180 #[.pointer none] w fun e w'=>e=.returned (.tuple #[.int .i64 0,Zi Ub])∧Below w.heap.size w w':=by
 have F:=Hh (Zb.made w 29 #[.int .i64 0,.int .i64 0,.int .i64 0]);go_enter Tryz.func180,Tryz.ntmps180;go_wp2_with(go_at_call 209;refine(nKind _ _ (by decide)).mono ?_;rintro e w3 ⟨rfl,b3⟩;have W0:=Hh (F.out.below b3 (by simp));obtain⟨g0,g1,g2,z0,z1,z2⟩:=Zl W0.out;have hz:=W0.out.inside;have B3:=Hh (Xq (Za _ _) b3);clear b3;simp only[Vk,zTok,Zi,Ub])
 go_region
 all_goals
  go_wp2
  have hF:=Zl ((((Zb.set3 W0.out (.int .i64 1) (.int .i64 0) (.int .i64 0)).alloc (.cells #[.int .i64 0,.string ⟨#[]⟩,.int .i64 0,.int .i64 0,.int .i64 0] 85)).alloc (.cells #[.int .i64 1,.int .i64 0,.int .i64 0] 29)).drew);refine bodyPost_ret (v:=.tuple #[.int .i64 0,Zi Ub]) (by simp[results,Tryz.results180,go_sem,hF,Zi,Ub]) rfl ⟨rfl,?_⟩;have hb:=Below.set3 B3.out (Nat.le_refl _) (.int .i64 1) (.int .i64 0) (.int .i64 0);exact Jo ((hb.alloc hb.size _).alloc (by have:=hb.size;simp at this ⊢;omega) _)
theorem nName(w:World):Calls Tryz.prog 177 #[.pointer none] w fun e w'=>e=.returned (.tuple #[.string ⟨#[]⟩,Zi Ub])∧Below w.heap.size w w':=by
 have F:=Hh (Zb.made w 29 #[.int .i64 0,.int .i64 0,.int .i64 0]);go_enter Tryz.func177,Tryz.ntmps177;go_wp2_with(go_at_call 209;refine(nKind _ _ (by decide)).mono ?_;rintro e w3 ⟨rfl,b3⟩;have W0:=Hh (F.out.below b3 (by simp));obtain⟨g0,g1,g2,z0,z1,z2⟩:=Zl W0.out;have hz:=W0.out.inside;have B3:=Hh (Xq (Za _ _) b3);clear b3;simp only[Vk,zTok,Zi,Ub])
 go_region
 all_goals
  go_wp2
  have hF:=Zl ((((Zb.set3 W0.out (.int .i64 1) (.int .i64 0) (.int .i64 0)).alloc (.cells #[.int .i64 0,.string ⟨#[]⟩,.int .i64 0,.int .i64 0,.int .i64 0] 85)).alloc (.cells #[.int .i64 1,.int .i64 0,.int .i64 0] 29)).drew);refine bodyPost_ret (v:=.tuple #[.string ⟨#[]⟩,Zi Ub]) (by simp[results,Tryz.results177,go_sem,hF,Zi,Ub]) rfl ⟨rfl,?_⟩;have hb:=Below.set3 B3.out (Nat.le_refl _) (.int .i64 1) (.int .i64 0) (.int .i64 0);exact Jo ((hb.alloc hb.size _).alloc (by have:=hb.size;simp at this ⊢;omega) _)
theorem nSigned(w:World):Calls Tryz.prog 181 #[.pointer none] w fun e w'=>e=.returned (.tuple #[.int .i64 0,Zi Ub])∧Below w.heap.size w w':=by
 have F:=Hh (Zb.made w 29 #[.int .i64 0,.int .i64 0,.int .i64 0]);go_enter Tryz.func181,Tryz.ntmps181;go_wp2_with(first
 |(go_at_call 174;refine(nIs _ _).mono ?_;rintro e w2 ⟨rfl,b2⟩;have W2:=Hh (F.out.below b2 (by simp));have B2:=Hh (Xq (Za _ _) b2);clear b2)
 |(go_at_call 180;refine(nInt _).mono ?_;rintro e w3 ⟨rfl,b3⟩;have W0:=Hh (W2.out.below b3 W2.out.inside);obtain⟨g0,g1,g2,z0,z1,z2⟩:=Zl W0.out;have hz:=W0.out.inside;have B3:=Hh (Xq B2.out b3);clear b3;simp only[Zi,Ub]))
 have hF:=Zl (Zb.set3 W0.out (.int .i64 1) (.int .i64 0) (.int .i64 0));refine bodyPost_ret (v:=.tuple #[.int .i64 0,Zi Ub]) (by simp[results,Tryz.results181,go_sem,hF,Zi,Ub]) rfl ⟨rfl,?_⟩;exact Below.set3 B3.out (Nat.le_refl _) _ _ _
theorem nDown(w:World):Calls Tryz.prog 278 #[.pointer none] w fun e w'=>e=.returned (Zi Ub)∧Below w.heap.size w w':=by
 have F:=Hh (Zb.made w 29 #[.int .i64 0,.int .i64 0,.int .i64 0]);go_enter Tryz.func278,Tryz.ntmps278;go_wp2_with(first
 |(go_at_call 172;refine(nStands _).mono ?_;rintro e w1 ⟨rfl,rfl⟩)
 |(go_at_call 173;refine(nHere _ _).mono ?_;rintro e w3 ⟨rfl,b3⟩;have W3:=Hh (F.out.below b3 (by simp));obtain⟨k0,k1,k2,f0,f1,f2⟩:=Zl W3.out;have hz:=W3.out.inside;have B3:=Hh (Xq (Za _ _) b3);clear b3;simp only[Zi,Ub]))
 have hF:=Zl (Zb.set3 W3.out (.int .i64 1) (.int .i64 0) (.int .i64 0));refine bodyPost_ret (v:=Zi Ub) (by simp[results,Tryz.results278,go_sem,hF,Zi,Ub]) rfl ⟨rfl,?_⟩;exact Below.set3 B3.out (Nat.le_refl _) _ _ _
theorem nUp(w:World):Calls Tryz.prog 279 #[.pointer none] w fun e w'=>e=.returned (.tuple #[])∧w=w':=by
 go_enter Tryz.func279,Tryz.ntmps279;go_wp2
 go_end0
 exact⟨rfl,rfl⟩
def Xn(c:Nat):St→Value
 |.ok _ _=>.pointer (some ⟨c,0,none⟩)
 |.bad _=>.pointer none
def Zfy:St→Int×Nat×Nat
 |.ok _ _=>okF
 |.bad F=>F
structure PAt(w:World)(q c r K:Nat)(L:List TokV)(st:St):Prop where
 whole:Zb w q 185 #[Xn c st,.int .i64 (Zfy st).1,.int .i64 ((Zfy st).2.1:Int),.int .i64 ((Zfy st).2.2:Int)]
 cur:∀ a d,st=.ok a d→q≠c∧q≠r∧Wa w c r K L a d
 flt:∀ F,st=.bad F→F.1≠0
 cin:c<w.heap.size
 rin:r<w.heap.size
theorem PAt.keeps{w w':World}{q c r K:Nat}{L:List TokV}{st:St}(h:PAt w q c r K L st){S:Nat→Prop}(hk:Keeps S w w')(hq:¬ S q)(hc:¬ S c)(hr:¬ S r):PAt w' q c r K L st:=
 ⟨hk.whole h.whole hq,fun a d e=>⟨(h.cur a d e).1,(h.cur a d e).2.1,(h.cur a d e).2.2.keeps hk hc hr⟩,h.flt,Nat.lt_of_lt_of_le h.cin hk.size,Nat.lt_of_lt_of_le h.rin hk.size⟩
theorem PAt.below{w w':World}{q c r K:Nat}{L:List TokV}{st:St}(h:PAt w q c r K L st)(hb:Below w.heap.size w w'):PAt w' q c r K L st:=
 h.keeps (S:=fun _=>False) (Keeps.of_below hb) id id id
structure Yc(w w':World)(q c r K:Nat)(L:List TokV)(st:St):Prop where
 at_:PAt w' q c r K L st
 keeps:Keeps (fun k=>k=q∨k=c) w w'
def Zv(w:World)(q c r K:Nat)(L:List TokV)(st:St)(val:Value)(e:Ending)(w':World):Prop:=e=.returned val∧Yc w w' q c r K L st
theorem Yc.start{w:World}{q c r K:Nat}{L:List TokV}{st:St}(h:PAt w q c r K L st):Yc w w q c r K L st:=⟨h,Keeps.refl _ _⟩
theorem Yc.next{w x y:World}{q c r K:Nat}{L:List TokV}{st:St}(m:Yc w x q c r K L st)(hb:Below x.heap.size x y):Yc w y q c r K L st:=
 ⟨m.at_.below hb,m.keeps.trans (Keeps.of_below hb)⟩
theorem Yc.then{w x y:World}{q c r K:Nat}{L:List TokV}{st st':St}(m:Yc w x q c r K L st)(h:Yc x y q c r K L st'):Yc w y q c r K L st':=
 ⟨h.at_,m.keeps.trans h.keeps⟩
theorem Yc.on{w x y:World}{q c r K:Nat}{L:List TokV}{st:St}(m:Yc w x q c r K L st){G:Nat}(hk:Keeps (fun k=>k=G) x y)(hG:w.heap.size≤G)(hq:q<w.heap.size)(hc:c<w.heap.size)(hr:r<w.heap.size):Yc w y q c r K L st:=by
 refine⟨m.at_.keeps hk (by omega) (by omega) (by omega),?_⟩;have h1:Keeps (fun k=>(k=q∨k=c)∨k=G) w x:=m.keeps.mono fun k h=>.inl h
 have h2:Keeps (fun k=>(k=q∨k=c)∨k=G) x y:=hk.mono fun k h=>.inr h
 exact(h1.trans h2).inner fun k hk h=>by omega
def Zgh(L:List TokV):St→Int×Nat×Nat
 |.ok a _=>wrF (Zp L a)
 |.bad _=>Ub
def wantV(L:List TokV)(t:ByteArray):St→Int×Nat×Nat
 |.ok a _=>wantF L a t
 |.bad _=>Ub
def downV(L:List TokV):St→Int×Nat×Nat
 |.ok a d=>Zco L a d
 |.bad _=>Ub
def deeperS:St→St
 |.ok a d=>.ok a (Zcp d)
 |.bad F=>.bad F
theorem PAt.step{w x:World}{q c r K:Nat}{L:List TokV}{a d b e:Nat}(h:PAt w q c r K L (.ok a d))(m:Vg w x c r K L b e):Yc w x q c r K L (.ok b e):=by
 obtain⟨h1,h2,h3⟩:=h.cur a d rfl;refine⟨⟨m.keeps.whole h.whole h1,fun a' d' e'=>?_,fun F e'=>(by cases e'),Nat.lt_of_lt_of_le h.cin m.keeps.size,Nat.lt_of_lt_of_le h.rin m.keeps.size⟩,m.keeps.mono fun k hk=>.inr hk⟩;cases e'
 exact⟨h1,h2,m.at_⟩
theorem xPeek(w:World)(q c r K:Nat)(L:List TokV)(st:St)(h:PAt w q c r K L st) :
  Calls Tryz.prog 133 #[Xn c st] w fun e w'=>e=.returned (Vk (st.tok L))∧Below w.heap.size w w':=by
 cases st with
 |ok a d=>exact Zie w c _ _ _ _ _ _ (h.cur a d rfl).2.2.look
 |bad F=>exact nPeek w
theorem xIs(w:World)(q c r K:Nat)(L:List TokV)(st:St)(t:ByteArray)(h:PAt w q c r K L st) :
  Calls Tryz.prog 174 #[Xn c st,.string t] w fun e w'=>e=.returned (.bool (isS L t st))∧Below w.heap.size w w':=by
 cases st with
 |ok a d=>exact cIs w c _ _ _ _ _ _ t (h.cur a d rfl).2.2.look
 |bad F=>exact nIs w t
theorem xWrong(w:World)(q c r K:Nat)(L:List TokV)(st:St)(h:PAt w q c r K L st) :
  Calls Tryz.prog 135 #[Xn c st] w fun e w'=>e=.returned (Zi (Zgh L st))∧Below w.heap.size w w':=by
 cases st with
 |ok a d=>exact cWrong w c _ _ _ _ _ _ (h.cur a d rfl).2.2.look
 |bad F=>exact nWrong w
theorem Wo(w:World)(q c r K:Nat)(L:List TokV)(st:St)(t:ByteArray)(h:PAt w q c r K L st) :
  Calls Tryz.prog 136 #[Xn c st,.string t] w (Zv w q c r K L (Xf L t st) (.bool (isS L t st))):=by
 cases st with
 |ok a d=>exact(cTake w c r K L a d t (h.cur a d rfl).2.2).mono fun e w' p=>⟨p.1,h.step p.2⟩
 |bad F=>exact(nTake w t).mono fun e w' p=>⟨p.1,(Yc.start h).next p.2⟩
theorem xWant(w:World)(q c r K:Nat)(L:List TokV)(st:St)(t:ByteArray)(h:PAt w q c r K L st) :
  Calls Tryz.prog 210 #[Xn c st,.string t] w (Zv w q c r K L (Xf L t st) (Zi (wantV L t st))):=by
 cases st with
 |ok a d=>exact(cWant w c r K L a d t (h.cur a d rfl).2.2).mono fun e w' p=>⟨p.1,h.step p.2⟩
 |bad F=>exact(nWant w t).mono fun e w' p=>⟨p.1,(Yc.start h).next p.2⟩
theorem xDown(w:World)(q c r K:Nat)(L:List TokV)(st:St)(h:PAt w q c r K L st) :
  Calls Tryz.prog 278 #[Xn c st] w (Zv w q c r K L (deeperS st) (Zi (downV L st))):=by
 cases st with
 |ok a d=>exact(cDown w c r K L a d (h.cur a d rfl).2.2).mono fun e w' p=>⟨p.1,h.step p.2⟩
 |bad F=>exact(nDown w).mono fun e w' p=>⟨p.1,(Yc.start h).next p.2⟩
theorem xUp(w:World)(q c r K:Nat)(L:List TokV)(st:St)(h:PAt w q c r K L st) :
  Calls Tryz.prog 279 #[Xn c st] w (Zv w q c r K L (upS st) (.tuple #[])):=by
 cases st with
 |ok a d=>exact(cUp w c r K L a d (h.cur a d rfl).2.2).mono fun e w' p=>⟨p.1,h.step p.2⟩
 |bad F=>exact(nUp w).mono fun e w' p=>⟨p.1,by obtain⟨_,rfl⟩:=p;exact Yc.start h⟩
theorem PAt.cell{w:World}{q c r K:Nat}{L:List TokV}{st:St}(h:PAt w q c r K L st):w.cell? ⟨q,0,none⟩=some (Xn c st):=h.whole.read 0
theorem xNote(w:World)(q c r K:Nat)(L:List TokV)(st:St)(F:Int×Nat×Nat)(h:PAt w q c r K L st) :
  Calls Tryz.prog 134 #[.pointer (some ⟨q,0,none⟩),Zi F] w (Zv w q c r K L (Vc F st) (.tuple #[])):=by
 obtain⟨f0,f1,f2⟩:=F;have nb:=Za w (.cells #[.int .i64 f0,.int .i64 (f1:Int),.int .i64 (f2:Int)] 29);have h1:=h.below nb;have hc:=h1.cell;have HM:=Hh ((Yc.start h).next nb);have H:=Hh h;have H1:=Hh h1;clear h h1 nb;unfold Zi;cases st with
 |bad G=>
  have hc':(w.alloc (.cells #[.int .i64 f0,.int .i64 (f1:Int),.int .i64 (f2:Int)] 29)).cell? ⟨q,0,none⟩=some (.pointer none):=hc;clear hc;go_enter Tryz.func134,Tryz.ntmps134;go_wp2
  go_end0
  exact⟨rfl,HM.out⟩
 |ok a d=>
  have hc':(w.alloc (.cells #[.int .i64 f0,.int .i64 (f1:Int),.int .i64 (f2:Int)] 29)).cell? ⟨q,0,none⟩=some (.pointer (some ⟨c,0,none⟩)):=hc;clear hc;by_cases hz:f0=0
  ·subst hz
   have hn:Vc (0,f1,f2) (.ok a d)=.ok a d:=by simp[Vc]
   rw[hn];clear hn;go_enter Tryz.func134,Tryz.ntmps134;go_wp2
   go_end0
   exact⟨rfl,HM.out⟩
  ·have hn:Vc (f0,f1,f2) (.ok a d)=.bad (f0,f1,f2):=if_neg hz
   rw[hn];have q1:(f0 != 0)=true:=by rw[bne_iff_ne];exact hz
   have z0:=H1.out.whole.thawed 0;have z1:=H1.out.whole.thawed 1;have z2:=H1.out.whole.thawed 2;have z3:=H1.out.whole.thawed 3;have y1:=H1.out.whole.read 1;have y2:=H1.out.whole.read 2;have y3:=H1.out.whole.read 3;have HZ:=Hh hz;clear hn hz;go_enter Tryz.func134,Tryz.ntmps134;go_wp2
   go_end0
   refine⟨rfl,⟨⟨?_,fun _ _ e=>(by cases e),fun F e=>(by cases e;exact HZ.out),?_,?_⟩,?_⟩⟩
   ·exact(((H1.out.whole.write 1 (.int .i64 f0)).write 2 (.int .i64 (f1:Int))).write 3 (.int .i64 (f2:Int))).write 0 (.pointer none)
   ·have:=H1.out.cin;simpa[World.setCell]using this
   ·have:=H1.out.rin;simpa[World.setCell]using this
   ·exact(((HM.out.keeps.setCell (p:=⟨q,1,none⟩) (.inl rfl) _).setCell (p:=⟨q,2,none⟩) (.inl rfl) _).setCell (p:=⟨q,3,none⟩) (.inl rfl) _).setCell (p:=⟨q,0,none⟩) (.inl rfl) _
theorem want_note(L:List TokV)(t:ByteArray)(st:St):Vc (wantV L t st) (Xf L t st)=Yg L t st:=by
 cases st with
 |ok a d=>
  unfold Yg;show Vc (wantF L a t) (.ok (Jq L a t) d)=if isT (Zp L a) t=true then .ok (Jq L a t) d else .bad (wrF (Zp L a))
  unfold wantF Jq;by_cases h:isT (Zp L a) t=true
  ·rw[if_pos h,if_pos h,if_pos h];rfl
  ·rw[if_neg h,if_neg h,if_neg h];exact if_neg (Zgi _)
 |bad F=>rfl
theorem wrong_note(L:List TokV)(st:St):Vc (Zgh L st) st=Zik L st:=by
 cases st with
 |ok a d=>exact if_neg (Zgi _)
 |bad F=>rfl
theorem Zcv(w:World)(q c r K:Nat)(L:List TokV)(st:St)(t:ByteArray)(h:PAt w q c r K L st) :
  Calls Tryz.prog 178 #[.pointer (some ⟨q,0,none⟩),.string t] w (Zv w q c r K L (Yg L t st) (.tuple #[])):=by
 have hc:=h.cell;have H:=Hh h;rw[←want_note];generalize hv:wantV L t st=v;have hw:∀ w,PAt w q c r K L st→Calls Tryz.prog 210 #[Xn c st,.string t] w (Zv w q c r K L (Xf L t st) (Zi v)):=fun w h=>by rw[←hv];exact xWant w q c r K L st t h
 clear h hv;go_enter Tryz.func178,Tryz.ntmps178;go_wp2_with(first
 |(go_at_call 210;refine(hw _ H.out).mono ?_;rintro e w1 ⟨rfl,m1⟩;have M1:=Hh m1;clear m1)
 |(go_at_call 134;refine(xNote _ q c r K L _ v M1.out.at_).mono ?_;rintro e w2 ⟨rfl,m2⟩;have M2:=Hh (M1.out.then m2);clear m2))
 go_end0
 exact⟨rfl,M2.out⟩
theorem idx_hit(v:TokV):∀(ws:List ByteArray)(k:Nat)(hk:k<ws.length),(∀ j,j<k→isT v (ws.getD j ⟨#[]⟩)=false)→isT v (ws.getD k ⟨#[]⟩)=true→Jk v ws=k+1
 |[],k,hk,_,_=>by cases hk
 |t::r,0,hk,_,h=>if_pos h
 |t::r,k+1,hk,hj,h=>by
  have h0:isT v t=false:=hj 0 (by omega);have ih:=idx_hit v r k (by rw[List.length_cons]at hk;omega) (fun j hjk=>hj (j+1) (by omega)) h;unfold Jk;rw[if_neg (by rw[h0];decide),if_neg (by rw[ih];omega),ih]
theorem idx_miss(v:TokV):∀(ws:List ByteArray),(∀ j,j<ws.length→isT v (ws.getD j ⟨#[]⟩)=false)→Jk v ws=0
 |[],_=>rfl
 |t::r,hj=>by
  have h0:isT v t=false:=hj 0 (by rw[List.length_cons];omega);have ih:=idx_miss v r (fun j hjk=>hj (j+1) (by rw[List.length_cons];omega));unfold Jk;rw[if_neg (by rw[h0];decide),if_pos ih]
theorem Zhw(L:List TokV)(ws:List ByteArray)(st:St)(k:Nat)(hk:k<ws.length)(hj:∀ j,j<k→isS L (ws.getD j ⟨#[]⟩) st=false)(h:isS L (ws.getD k ⟨#[]⟩) st=true) :
  Zd L ws st=k+1∧Zn L ws st=Xf L (ws.getD k ⟨#[]⟩) st:=by
 cases st with
 |ok a d=>
  have hi:=idx_hit (Zp L a) ws k hk hj h;refine⟨hi,?_⟩;rw[show Zn L ws (.ok a d)=.ok (onA L a) d from if_neg (by rw[hi];omega)];show St.ok (onA L a) d=.ok (Jq L a (ws.getD k ⟨#[]⟩)) d;unfold Jq;rw[if_pos (show isT (Zp L a) (ws.getD k ⟨#[]⟩)=true from h)]
 |bad F=>cases h
theorem find_miss(L:List TokV)(ws:List ByteArray)(st:St)(hj:∀ j,j<ws.length→isS L (ws.getD j ⟨#[]⟩) st=false):Zd L ws st=0:=by
 cases st with
 |ok a d=>exact idx_miss (Zp L a) ws hj
 |bad F=>rfl
theorem Xj{L:List TokV}{t:ByteArray}{st:St}(h:isS L t st=false):Xf L t st=st:=by
 cases st with
 |ok a d=>
  show St.ok (Jq L a t) d=.ok a d;unfold Jq;rw[if_neg (by rw[show isT (Zp L a) t=false from h];decide)]
 |bad F=>rfl
def Words(w:World)(g:Nat)(ws:List ByteArray):Prop:=Zb w g 9 (ws.map Value.string).toArray
theorem Words.at_{w:World}{g:Nat}{ws:List ByteArray}(h:Words w g ws){k:Nat}(hk:k<ws.length):w.cell? ⟨g,k,none⟩=some (.string (ws.getD k ⟨#[]⟩)):=by
 rw[Zb.read h k];simp[List.getD,hk]
theorem xfind(w:World)(q c r K:Nat)(L:List TokV)(st:St)(ws:List ByteArray)(g n m:Nat)(h:PAt w q c r K L st)(hw:Words w g ws)(hq:g≠q)(hc:g≠c)(hn:n=ws.length)(hl:n≤64) :
  Calls Tryz.prog 147 #[.pointer (some ⟨q,0,none⟩),.slice (some ⟨g,0,none⟩) n m] w (Zv w q c r K L (Zn L ws st) (.int .i64 (Zd L ws st))):=by
 have H:=Hh (And.intro hw (And.intro hq (And.intro hc hn)));have hP:=Hh (Yc.start h);clear h hw hq hc hn;have l64:(n:Int)≤64:=by omega
 go_enter Tryz.func147,Tryz.ntmps147;go_wp2
 go_loopw [9] (fun i wr=>∃ k:Nat,i=.int .i64 k∧k≤n∧Yc w wr q c r K L st∧∀ j,j<k→isS L (ws.getD j ⟨#[]⟩) st=false) (fun i _=>n - (intOf i).toNat)
 case atStart=>exact⟨0,by go_num,Nat.zero_le _,hP.out,fun j hj=>by omega⟩
 case round=>
  obtain⟨k,rfl,hk,hm,hj⟩:=hrel;obtain⟨H1,H2,H3,H4⟩:=H.out;have HJ:=Hh hj;have HM:=Hh hm;have hcell:=hm.at_.cell;have HW:Words wr g ws:=hm.keeps.whole H1 (by omega);have HN:=Hh H4;have hnw:k<n→k<ws.length:=fun h=>by omega
  have hwn:¬ k<n→∀ j,j<ws.length→j<k:=fun h j hj=>by omega
  clear H4;by_cases hlt:k<n
  ·have hx:=HW.at_ (k:=k) (hnw hlt)
   have hi:=HW.inside;generalize hv:isS L (ws.getD k ⟨#[]⟩) st=b;have ht:∀ w,PAt w q c r K L st→Calls Tryz.prog 136 #[Xn c st,.string (ws.getD k ⟨#[]⟩)] w (Zv w q c r K L (Xf L (ws.getD k ⟨#[]⟩) st) (.bool b)):=fun w h=>by rw[←hv];exact Wo w q c r K L st _ h
   generalize hX:ws.getD k ⟨#[]⟩=x at *;have HV:=Hh hv;have HX:=Hh hX;clear hX;have hlt':(k:Int)<(n:Int):=by omega
   have HK:=Hh (hnw hlt);clear hm hj H1 H2 H3 HW hv hk hnw hwn;cases b
   ·go_wp2_with(go_at_call 136;refine(ht _ HM.out.at_).mono ?_;rintro e w1 ⟨rfl,m1⟩;have M1:=Hh (HM.out.then m1);clear m1)
    go_roundw
    case rel=>
     have m:=M1.out;rw[Xj HV.out]at m;refine⟨k+1,by go_num,by omega,m,fun j hj=>?_⟩;by_cases e:j=k
     ·subst e;rw[HX.out];exact HV.out
     ·exact HJ.out j (by omega)
    case measure=>simp[intOf];omega
   ·go_wp2_with(go_at_call 136;refine(ht _ HM.out.at_).mono ?_;rintro e w1 ⟨rfl,m1⟩;have M1:=Hh (HM.out.then m1);clear m1)
    go_ret;obtain⟨e1,e2⟩:=Zhw L ws st k HK.out HJ.out (by rw[HX.out];exact HV.out);rw[e1,e2,HX.out];exact⟨rI (by omega),M1.out⟩
  ·have e:=find_miss L ws st (fun j hj=>HJ.out j (hwn hlt j hj))
   have HE:=Hh e;have hge:(n:Int)≤(k:Int):=by omega
   clear hm hj H1 H2 H3 HW e hnw hwn;go_wp2
   go_ret;rw[HE.out,Jn L HE.out];exact⟨rfl,HM.out⟩
theorem xone(w:World)(q c r K:Nat)(L:List TokV)(st:St)(ws:List ByteArray)(g n m:Nat)(h:PAt w q c r K L st)(hw:Words w g ws)(hq:g≠q)(hc:g≠c)(hn:n=ws.length)(hl:n≤64) :
  Calls Tryz.prog 257 #[.pointer (some ⟨q,0,none⟩),.slice (some ⟨g,0,none⟩) n m] w (Zv w q c r K L (Yk L ws st) (.int .i64 (Zd L ws st))):=by
 have hf:=xfind w q c r K L st ws g n m h hw hq hc hn hl;have hb:=Jg;have hF:Zd L ws st=0→Zn L ws st=st:=Jn L;unfold Yk;generalize hk:Zd L ws st=k at *;have HF:=Hh hF;have HK:=Hh hk;clear h hw hq hc hn hl hb hF hk;by_cases h0:k=0
 ·subst h0
  rw[if_pos rfl];rw[HF.out rfl]at hf;rw[←wrong_note];generalize hv:Zgh L st=v;have hw:∀ w,PAt w q c r K L st→Calls Tryz.prog 135 #[Xn c st] w fun e w'=>e=.returned (Zi v)∧Below w.heap.size w w':=fun w h=>by rw[←hv];exact xWrong w q c r K L st h
  clear hv;go_enter Tryz.func257,Tryz.ntmps257;go_wp2_with(first
 |(go_at_call 147;refine hf.mono ?_;rintro e w1 ⟨rfl,m1⟩;have hcell:=m1.at_.cell;have M1:=Hh m1;clear m1)
 |(go_at_call 135;refine(hw _ M1.out.at_).mono ?_;rintro e w2 ⟨rfl,b2⟩;have M2:=Hh (M1.out.next b2);clear b2)
 |(go_at_call 134;refine(xNote _ q c r K L _ v M2.out.at_).mono ?_;rintro e w3 ⟨rfl,m3⟩;have M3:=Hh (M2.out.then m3);clear m3))
  go_ret;exact⟨rfl,M3.out⟩
 ·rw[if_neg h0]
  have q0:((k:Int) == 0)=false:=by rw[beq_eq_false_iff_ne];omega
  clear h0;go_enter Tryz.func257,Tryz.ntmps257;go_wp2_with(go_at_call 147;refine hf.mono ?_;rintro e w1 ⟨rfl,m1⟩;have M1:=Hh m1;clear m1)
  go_ret;exact⟨rfl,M1.out⟩
theorem Zjd(W:World)(q c r K G:Nat)(L:List TokV)(st:St)(ws:List ByteArray)(n m:Nat)(cs:Array Value)(hcs:cs=(ws.map Value.string).toArray)(hG:G=W.heap.size)(h:PAt W q c r K L st)(hn:n=ws.length)(hl:n≤64) :
  Calls Tryz.prog 257 #[.pointer (some ⟨q,0,none⟩),.slice (some ⟨G,0,none⟩) n m] (W.alloc (.cells cs 9)) fun e w'=>e=.returned (.int .i64 (Zd L ws st))∧Yc W w' q c r K L (Yk L ws st):=by
 subst hcs hG;have M1:=(Yc.start h).next (Za W (.cells (ws.map Value.string).toArray 9));have hq:=h.whole.inside;refine(xone _ q c r K L st ws W.heap.size n m M1.at_ (Zb.made _ _ _) (by omega) (by have:=h.cin;omega) hn hl).mono ?_;rintro e w' ⟨h1,h2⟩;exact⟨h1,M1.then h2⟩
theorem xfindB(W:World)(q c r K G:Nat)(L:List TokV)(st:St)(ws:List ByteArray)(n m:Nat)(cs:Array Value)(hcs:cs=(ws.map Value.string).toArray)(hG:G=W.heap.size)(h:PAt W q c r K L st)(hn:n=ws.length)(hl:n≤64) :
  Calls Tryz.prog 147 #[.pointer (some ⟨q,0,none⟩),.slice (some ⟨G,0,none⟩) n m] (W.alloc (.cells cs 9)) fun e w'=>e=.returned (.int .i64 (Zd L ws st))∧Yc W w' q c r K L (Zn L ws st):=by
 subst hcs hG;have M1:=(Yc.start h).next (Za W (.cells (ws.map Value.string).toArray 9));have hq:=h.whole.inside;refine(xfind _ q c r K L st ws W.heap.size n m M1.at_ (Zb.made _ _ _) (by omega) (by have:=h.cin;omega) hn hl).mono ?_;rintro e w' ⟨h1,h2⟩;exact⟨h1,M1.then h2⟩
def intF(L:List TokV):St→Int×Nat×Nat
 |.ok a _=>Uk L a 2
 |.bad _=>Ub
def intM(L:List TokV):St→St
 |.ok a d=>.ok (Ul L a 2) d
 |.bad F=>.bad F
def nameF(L:List TokV):St→Int×Nat×Nat
 |.ok a _=>Uk L a 3
 |.bad _=>Ub
def nameM(L:List TokV):St→St
 |.ok a d=>.ok (Ul L a 3) d
 |.bad F=>.bad F
def sigF(L:List TokV):St→Int×Nat×Nat
 |.ok a _=>Zjg L a
 |.bad _=>Ub
def sigM(L:List TokV):St→St
 |.ok a d=>.ok (Zep L a) d
 |.bad F=>.bad F
theorem int_note(L:List TokV)(st:St):Vc (intF L st) (intM L st)=Zbk L st:=by cases st<;>rfl
theorem name_note(L:List TokV)(st:St):Vc (nameF L st) (nameM L st)=Xk L st:=by cases st<;>rfl
theorem sig_note(L:List TokV)(st:St):Vc (sigF L st) (sigM L st)=Jb L st:=by cases st<;>rfl
theorem xInt(w:World)(q c r K:Nat)(L:List TokV)(st:St)(h:PAt w q c r K L st) :
  Calls Tryz.prog 180 #[Xn c st] w (Zv w q c r K L (intM L st) (.tuple #[.int .i64 (Zdh L st),Zi (intF L st)])):=by
 cases st with
 |ok a d=>exact(cInt w c r K L a d (h.cur a d rfl).2.2).mono fun e w' p=>⟨p.1,h.step p.2⟩
 |bad F=>exact(nInt w).mono fun e w' p=>⟨p.1,(Yc.start h).next p.2⟩
theorem xName(w:World)(q c r K:Nat)(L:List TokV)(st:St)(h:PAt w q c r K L st) :
  Calls Tryz.prog 177 #[Xn c st] w (Zv w q c r K L (nameM L st) (.tuple #[.string (Jx L st),Zi (nameF L st)])):=by
 cases st with
 |ok a d=>exact(cName w c r K L a d (h.cur a d rfl).2.2).mono fun e w' p=>⟨p.1,h.step p.2⟩
 |bad F=>exact(nName w).mono fun e w' p=>⟨p.1,(Yc.start h).next p.2⟩
theorem xSigned(w:World)(q c r K:Nat)(L:List TokV)(st:St)(h:PAt w q c r K L st) :
  Calls Tryz.prog 181 #[Xn c st] w (Zv w q c r K L (sigM L st) (.tuple #[.int .i64 (Js L st),Zi (sigF L st)])):=by
 cases st with
 |ok a d=>exact(cSigned w c r K L a d (h.cur a d rfl).2.2).mono fun e w' p=>⟨p.1,h.step p.2⟩
 |bad F=>exact(nSigned w).mono fun e w' p=>⟨p.1,(Yc.start h).next p.2⟩
theorem Zgx(w:World)(q c r K:Nat)(L:List TokV)(st:St)(h:PAt w q c r K L st) :
  Calls Tryz.prog 179 #[.pointer (some ⟨q,0,none⟩),.func (.func 180) #[Xn c st] #[]] w (Zv w q c r K L (Zbk L st) (.int .i64 (Zdh L st))):=by
 have H:=Hh h;rw[←int_note];have hi:=xInt w q c r K L st h;generalize intF L st=F at *;obtain⟨f0,f1,f2⟩:=F;have qin:=h.whole.inside;have cin:=h.cin;have rin:=h.rin;clear h;unfold Zi at hi;go_enter Tryz.func179,Tryz.ntmps179;go_wp2_with(first
 |(go_at_call 180;refine hi.mono ?_;rintro e w1 ⟨rfl,m1⟩;have M1:=Hh (m1.next (Za w1 (.cells #[.int .i64 f0,.int .i64 (f1:Int),.int .i64 (f2:Int)] 29)));clear m1)
 |(go_at_call 134;refine(xNote _ q c r K L _ (f0,f1,f2) M1.out.at_).mono ?_;rintro e w2 ⟨rfl,m2⟩;have M2:=Hh (M1.out.then m2);clear m2))
 go_ret;exact⟨rfl,M2.out⟩
theorem Zfl(w:World)(q c r K:Nat)(L:List TokV)(st:St)(h:PAt w q c r K L st) :
  Calls Tryz.prog 176 #[.pointer (some ⟨q,0,none⟩),.func (.func 177) #[Xn c st] #[]] w (Zv w q c r K L (Xk L st) (.string (Jx L st))):=by
 have H:=Hh h;rw[←name_note];have hi:=xName w q c r K L st h;generalize nameF L st=F at *;obtain⟨f0,f1,f2⟩:=F;have qin:=h.whole.inside;have cin:=h.cin;have rin:=h.rin;clear h;unfold Zi at hi;go_enter Tryz.func176,Tryz.ntmps176;go_wp2_with(first
 |(go_at_call 177;refine hi.mono ?_;rintro e w1 ⟨rfl,m1⟩;have M1:=Hh (m1.next (Za w1 (.cells #[.int .i64 f0,.int .i64 (f1:Int),.int .i64 (f2:Int)] 29)));clear m1)
 |(go_at_call 134;refine(xNote _ q c r K L _ (f0,f1,f2) M1.out.at_).mono ?_;rintro e w2 ⟨rfl,m2⟩;have M2:=Hh (M1.out.then m2);clear m2))
 go_ret;exact⟨rfl,M2.out⟩
theorem Zch(w:World)(q c r K:Nat)(L:List TokV)(st:St)(h:PAt w q c r K L st) :
  Calls Tryz.prog 179 #[.pointer (some ⟨q,0,none⟩),.func (.func 181) #[Xn c st] #[]] w (Zv w q c r K L (Jb L st) (.int .i64 (Js L st))):=by
 have H:=Hh h;rw[←sig_note];have hi:=xSigned w q c r K L st h;generalize sigF L st=F at *;obtain⟨f0,f1,f2⟩:=F;have qin:=h.whole.inside;have cin:=h.cin;have rin:=h.rin;clear h;unfold Zi at hi;go_enter Tryz.func179,Tryz.ntmps179;go_wp2_with(first
 |(go_at_call 181;refine hi.mono ?_;rintro e w1 ⟨rfl,m1⟩;have M1:=Hh (m1.next (Za w1 (.cells #[.int .i64 f0,.int .i64 (f1:Int),.int .i64 (f2:Int)] 29)));clear m1)
 |(go_at_call 134;refine(xNote _ q c r K L _ (f0,f1,f2) M1.out.at_).mono ?_;rintro e w2 ⟨rfl,m2⟩;have M2:=Hh (M1.out.then m2);clear m2))
 go_ret;exact⟨rfl,M2.out⟩
theorem deep_note(L:List TokV)(t:ByteArray)(st:St)(h:isS L t st=true):Vc (downV L st) (deeperS st)=Zdo L t st:=by
 cases st with
 |ok a d=>exact(if_pos h).symm
 |bad F=>cases h
theorem deep_not(L:List TokV)(t:ByteArray)(st:St)(h:isS L t st=false):Zdo L t st=st:=by
 cases st with
 |ok a d=>exact if_neg (by rw[show isT (Zp L a) t=false from h];decide)
 |bad F=>rfl
theorem xdescend(w:World)(q c r K:Nat)(L:List TokV)(st:St)(t:ByteArray)(h:PAt w q c r K L st) :
  Calls Tryz.prog 255 #[.pointer (some ⟨q,0,none⟩),.string t] w (Zv w q c r K L (Vw L t st) (.tuple #[])):=by
 have hc:=h.cell;have H:=Hh h;have hi:=xIs w q c r K L st t h;unfold Vw;cases hb:isS L t st
 ·rw[deep_not L t st hb]
  rw[hb]at hi;clear hb h;go_enter Tryz.func255,Tryz.ntmps255;go_wp2_with(first
 |(go_at_call 174;refine hi.mono ?_;rintro e w1 ⟨rfl,b1⟩;have M1:=Hh ((Yc.start H.out).next b1);clear b1)
 |(go_at_call 178;refine(Zcv _ q c r K L _ t M1.out.at_).mono ?_;rintro e w2 ⟨rfl,m2⟩;have M2:=Hh (M1.out.then m2);clear m2))
  go_end0
  exact⟨rfl,M2.out⟩
 ·rw[hb]at hi
  rw[←deep_note L t st hb];generalize hv:downV L st=v;have hd:∀ w,PAt w q c r K L st→Calls Tryz.prog 278 #[Xn c st] w (Zv w q c r K L (deeperS st) (Zi v)):=fun w h=>by rw[←hv];exact xDown w q c r K L st h
  clear hb h hv;go_enter Tryz.func255,Tryz.ntmps255;go_wp2_with(first
 |(go_at_call 174;refine hi.mono ?_;rintro e w1 ⟨rfl,b1⟩;have hc1:=(H.out.below b1).cell;have M1:=Hh ((Yc.start H.out).next b1);clear b1)
 |(go_at_call 278;refine(hd _ M1.out.at_).mono ?_;rintro e w2 ⟨rfl,m2⟩;have M2:=Hh (M1.out.then m2);clear m2)
 |(go_at_call 134;refine(xNote _ q c r K L _ v M2.out.at_).mono ?_;rintro e w3 ⟨rfl,m3⟩;have M3:=Hh (M2.out.then m3);clear m3)
 |(go_at_call 178;refine(Zcv _ q c r K L _ t M3.out.at_).mono ?_;rintro e w4 ⟨rfl,m4⟩;have M4:=Hh (M3.out.then m4);clear m4))
  go_end0
  exact⟨rfl,M4.out⟩
theorem xascend(w:World)(q c r K:Nat)(L:List TokV)(st:St)(t:ByteArray)(h:PAt w q c r K L st) :
  Calls Tryz.prog 256 #[.pointer (some ⟨q,0,none⟩),.string t] w (Zv w q c r K L (Zcj L t st) (.tuple #[])):=by
 have H:=Hh h;have hw:=Zcv w q c r K L st t h;unfold Zcj;generalize Yg L t st=s at *;clear h;go_enter Tryz.func256,Tryz.ntmps256;go_wp2_with(first
 |(go_at_call 178;refine hw.mono ?_;rintro e w1 ⟨rfl,m1⟩;have hcell:=m1.at_.cell;have M1:=Hh m1;clear m1)
 |(go_at_call 279;refine(xUp _ q c r K L _ M1.out.at_).mono ?_;rintro e w2 ⟨rfl,m2⟩;have M2:=Hh (M1.out.then m2);clear m2))
 go_end0
 exact⟨rfl,M2.out⟩
theorem xside(w:World)(q c r K:Nat)(L:List TokV)(st:St)(h:PAt w q c r K L st) :
  Calls Tryz.prog 220 #[.pointer (some ⟨q,0,none⟩)] w (Zv w q c r K L (Yk L Zq st) (.int .i64 (Zd L Zq st))):=by
 have qin:=h.whole.inside;have hf:=Zjd w q c r K _ L st Zq 3 3 _ rfl rfl h rfl (by decide);clear h;go_enter Tryz.func220,Tryz.ntmps220;go_wp2_with(go_at_call 257;refine hf.mono ?_;rintro e w1 ⟨rfl,m1⟩;have M1:=Hh m1;clear m1)
 go_ret;exact⟨rfl,M1.out⟩
theorem xop(w:World)(q c r K:Nat)(L:List TokV)(st:St)(h:PAt w q c r K L st) :
  Calls Tryz.prog 280 #[.pointer (some ⟨q,0,none⟩)] w (Zv w q c r K L (Yk L wOp st) (.int .i64 (Zd L wOp st))):=by
 have qin:=h.whole.inside;have hf:=Zjd w q c r K _ L st wOp 6 6 _ rfl rfl h rfl (by decide);clear h;go_enter Tryz.func280,Tryz.ntmps280;go_wp2_with(go_at_call 257;refine hf.mono ?_;rintro e w1 ⟨rfl,m1⟩;have M1:=Hh m1;clear m1)
 go_ret;exact⟨rfl,M1.out⟩
theorem row_to:(Tryz.prog.underlying 48).map TypeDesc.isRow=some true:=by kernel_rfl
theorem Zar:(Tryz.prog.info? 48).map (·.size)=some 2:=by kernel_rfl
theorem Yo:(Tryz.prog.info? 3).map (·.size)=some 1:=by kernel_rfl
theorem Yc.put{w x y:World}{q c r K:Nat}{L:List TokV}{st:St}(m:Yc w x q c r K L st){G:Nat}{t:TypeId}{vs:List Value}(p:Put x y G t vs)(hG:w.heap.size≤G)(hq:q<w.heap.size)(hc:c<w.heap.size)(hr:r<w.heap.size):Yc w y q c r K L st:=m.on p.keeps hG hq hc hr
theorem xto(w:World)(q c r K:Nat)(L:List TokV)(st:St)(h:PAt w q c r K L st) :
  Calls Tryz.prog 221 #[.pointer (some ⟨q,0,none⟩)] w (Zv w q c r K L (toS L st) (.agg #[.int .i64 (toK L st),.int .i64 (toL L st)])):=by
 have qin:=h.whole.inside;have cin:=h.cin;have rin:=h.rin;have nb:=Za w (.cells #[.int .i64 0,.int .i64 0] 48);have M0:=Hh ((Yc.start h).next nb);have R0:=Hh (Zb.made w 48 #[.int .i64 0,.int .i64 0]);have hf:=Zjd _ q c r K (w.heap.size+1) L st wTo 4 4 _ rfl (by simp) M0.out.at_ rfl (by decide);clear h;unfold toS toK toL;generalize hk:Zd L wTo st=k at *;generalize Yk L wTo st=s1 at *;clear hk;by_cases h4:k=4
 ·subst h4
  rw[if_pos rfl,if_pos rfl];rw[show((4:Nat):Int)=4 from rfl]at hf ⊢;go_enter Tryz.func221,Tryz.ntmps221;go_wp2_with(first
 |(go_at_call 257;refine hf.mono ?_;rintro e w1 ⟨rfl,m1⟩
   have nb:=Za w1 (.cells #[.int .i64 4,.int .i64 0] 48);have hcell:=(m1.at_.below nb).cell;have hz1:w.heap.size+1≤w1.heap.size:=by have:=m1.keeps.size;simp at this;omega
   have T1:=Hh (Zb.made w1 48 #[.int .i64 4,.int .i64 0]);have R1:=Hh ((m1.keeps.whole R0.out (by omega)).below nb (by omega));have M1:=Hh ((M0.out.then m1).next nb);clear m1 nb)
 |(go_at_call 179;refine(Zgx _ q c r K L _ M1.out.at_).mono ?_;rintro e w2 ⟨rfl,m2⟩
   have hz2:w1.heap.size+1≤w2.heap.size:=by have:=m2.keeps.size;simp at this;omega
   have T2:=Hh (m2.keeps.whole T1.out (by omega));have R2:=Hh (m2.keeps.whole R1.out (by omega));have M2:=Hh (M1.out.then m2);clear m2)
 |((with_reducible refine at_st 18 17 ?_);refine wpList_store1 3 _ _ 48 w1.heap.size 1 [.int .i64 4] (.int .i64 0) (.int .i64 (Zdh L s1)) [] T2.out rfl Yo rfl rfl rfl rfl rfl rfl ?_
   intro w3 p3;have T3:=Hh (show Zb w3 w1.heap.size 48 [.int .i64 4,.int .i64 (Zdh L s1)].toArray from p3.whole);have R3:=Hh (p3.keeps.whole R2.out (by omega));have M3:=Hh (M2.out.put p3 (by omega) qin cin rin);clear p3)
 |((with_reducible refine at_ld 19 ?_);refine wpList_loadW 48 _ 48 w1.heap.size _ T3.out row_to Zar rfl rfl rfl ?_)
 |((with_reducible refine at_st 2 19 ?_);refine wpList_storeW 48 _ _ 48 w.heap.size _ [.int .i64 4,.int .i64 (Zdh L s1)] R3.out rfl Zar (by simp[Value.oneCell']) rfl rfl rfl rfl rfl ?_
   intro w4 p4;have R4:=Hh p4.whole;have M4:=Hh (M3.out.put p4 (Nat.le_refl _) qin cin rin);clear p4))
  exact Zj 2 48 48 w.heap.size _ rfl R4.out row_to Zar rfl rfl ⟨rfl,M4.out⟩
 ·rw[if_neg h4,if_neg h4]
  have q4:((k:Int) == 4)=false:=by rw[beq_eq_false_iff_ne];omega
  clear h4;go_enter Tryz.func221,Tryz.ntmps221;go_wp2_with(first
 |(go_at_call 257;refine hf.mono ?_;rintro e w1 ⟨rfl,m1⟩
   have nb:=Za w1 (.cells #[.int .i64 (k:Int),.int .i64 0] 48);have hz1:w.heap.size+1≤w1.heap.size:=by have:=m1.keeps.size;simp at this;omega
   have T1:=Hh (Zb.made w1 48 #[.int .i64 (k:Int),.int .i64 0]);have R1:=Hh ((m1.keeps.whole R0.out (by omega)).below nb (by omega));have M1:=Hh ((M0.out.then m1).next nb);clear m1 nb)
 |((with_reducible refine at_ld 19 ?_);refine wpList_loadW 48 _ 48 w1.heap.size _ T1.out row_to Zar rfl rfl rfl ?_)
 |((with_reducible refine at_st 2 19 ?_);refine wpList_storeW 48 _ _ 48 w.heap.size _ [.int .i64 (k:Int),.int .i64 0] R1.out rfl Zar (by simp[Value.oneCell']) rfl rfl rfl rfl rfl ?_
   intro w4 p4;have R4:=Hh p4.whole;have M4:=Hh (M1.out.put p4 (Nat.le_refl _) qin cin rin);clear p4))
  exact Zj 2 48 48 w.heap.size _ rfl R4.out row_to Zar rfl rfl ⟨rfl,M4.out⟩
end Go.Proofs.YtljdgdphldckhaaGreat
