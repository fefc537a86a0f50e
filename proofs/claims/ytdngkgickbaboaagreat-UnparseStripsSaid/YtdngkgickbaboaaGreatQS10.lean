/-
  No conditions but those that each theorem names.
-/
import Derived.Test.YtdngkgickbaboaaGreatQS9
set_option maxRecDepth 20000
set_option maxHeartbeats 12800000
namespace Go.Proofs.YtdngkgickbaboaaGreat
open Go.ChangeShapes Go.WideShapes Go.ChangeAt Go.RowKit
set_option linter.unusedVariables false
set_option linter.unusedSimpArgs false
def Zap:Int×Nat×Nat:=(1,0,0)
theorem nStands(w:World):Calls Tryz.prog 96 #[.pointer none] w fun e w'=>e=.returned (.bool false)∧w=w':=by
 go_enter Tryz.func96,Tryz.ntmps96;go_wp2
 go_ret;exact⟨rfl,rfl⟩
theorem nPeek(w:World):Calls Tryz.prog 71 #[.pointer none] w fun e w'=>e=.returned (Vd zTok)∧Below w.heap.size w w':=by
 go_enter Tryz.func71,Tryz.ntmps71;go_wp2_with(go_at_call 96;refine(nStands _).mono ?_;rintro e w1 ⟨rfl,rfl⟩)
 refine bodyPost_ret (v:=Vd zTok) (by simp[results,Tryz.results71,go_sem,Vd,zTok]) rfl ⟨rfl,?_⟩;exact Zi _ _
theorem nHere(w:World)(E:Int):Calls Tryz.prog 97 #[.pointer none,.int .i64 E] w fun e w'=>e=.returned (Zr Zap)∧Below w.heap.size w w':=by
 go_enter Tryz.func97,Tryz.ntmps97;go_wp2
 refine bodyPost_ret (v:=Zr Zap) (by simp[results,Tryz.results97,go_sem,Zr,Zap]) rfl ⟨rfl,?_⟩;exact Zi _ _
theorem nIs(w:World)(t:ByteArray):Calls Tryz.prog 128 #[.pointer none,.string t] w fun e w'=>e=.returned (.bool false)∧Below w.heap.size w w':=by
 go_enter Tryz.func128,Tryz.ntmps128;go_wp2_with(go_at_call 71;refine(nPeek _).mono ?_;rintro e w2 ⟨rfl,b2⟩;have B2:=Hh b2;clear b2;simp only[Vd,zTok])
 go_ret;exact⟨rfl,B2.out.alloc B2.out.size _⟩
theorem nTake(w:World)(t:ByteArray):Calls Tryz.prog 99 #[.pointer none,.string t] w fun e w'=>e=.returned (.bool false)∧Below w.heap.size w w':=by
 go_enter Tryz.func99,Tryz.ntmps99;go_wp2_with(go_at_call 128;refine(nIs _ _).mono ?_;rintro e w2 ⟨rfl,b2⟩;have B2:=Hh b2;clear b2)
 go_ret;exact⟨rfl,B2.out⟩
theorem nWrong(w:World):Calls Tryz.prog 73 #[.pointer none] w fun e w'=>e=.returned (Zr Zap)∧Below w.heap.size w w':=by
 have F:=Hh (Zf.made w 29 #[.int .i64 0,.int .i64 0,.int .i64 0]);have hfd:=fun w=>Zee 0 0 0 0 ⟨#[]⟩ w
 go_enter Tryz.func73,Tryz.ntmps73;go_wp2_with(first
 |(go_at_call 71;refine(nPeek _).mono ?_;rintro e w2 ⟨rfl,b2⟩;have W2:=Hh (F.out.below b2 (by simp));have B2:=Hh (Ue (Zi _ _) b2);clear b2;simp only[Vd,zTok,Int.ofNat_zero,Int.natCast_zero])
 |(go_at_call 97;refine(nHere _ _).mono ?_;rintro e w3 ⟨rfl,b3⟩;have W3:=Hh (W2.out.below b3 W2.out.inside);obtain⟨k0,k1,k2,f0,f1,f2⟩:=Zy W3.out;have hz:=W3.out.inside;have B3:=Hh (Ue B2.out b3);clear b3;simp only[Zr,Zap]))
 have hF:=Zy (Zf.set3 W3.out (.int .i64 1) (.int .i64 0) (.int .i64 0));refine bodyPost_ret (v:=Zr Zap) (by simp[results,Tryz.results73,go_sem,hF,Zr,Zap]) rfl ⟨rfl,?_⟩;exact Below.set3 B3.out (Nat.le_refl _) _ _ _
theorem nWant(w:World)(t:ByteArray):Calls Tryz.prog 190 #[.pointer none,.string t] w fun e w'=>e=.returned (Zr Zap)∧Below w.heap.size w w':=by
 have F:=Hh (Zf.made w 29 #[.int .i64 0,.int .i64 0,.int .i64 0]);go_enter Tryz.func190,Tryz.ntmps190;go_wp2_with(first
 |(go_at_call 99;refine(nTake _ _).mono ?_;rintro e w2 ⟨rfl,b2⟩;have W2:=Hh (F.out.below b2 (by simp));have B2:=Hh (Ue (Zi _ _) b2);clear b2)
 |(go_at_call 73;refine(nWrong _).mono ?_;rintro e w3 ⟨rfl,b3⟩;have W3:=Hh (W2.out.below b3 W2.out.inside);obtain⟨k0,k1,k2,f0,f1,f2⟩:=Zy W3.out;have hz:=W3.out.inside;have B3:=Hh (Ue B2.out b3);clear b3;simp only[Zr,Zap]))
 have hF:=Zy (Zf.set3 W3.out (.int .i64 1) (.int .i64 0) (.int .i64 0));refine bodyPost_ret (v:=Zr Zap) (by simp[results,Tryz.results190,go_sem,hF,Zr,Zap]) rfl ⟨rfl,?_⟩;exact Below.set3 B3.out (Nat.le_refl _) _ _ _
theorem nKind(w:World)(k:Int)(hk:0<k):Calls Tryz.prog 186 #[.pointer none,.int .i64 k] w fun e w'=>e=.returned (.tuple #[Vd zTok,Zr Zap])∧Below w.heap.size w w':=by
 have T0:=Hh (Two.start w 69 #[.int .i64 0,.string ⟨#[]⟩,.int .i64 0,.int .i64 0,.int .i64 0] 29 #[.int .i64 0,.int .i64 0,.int .i64 0]);have hfd:=fun w=>Zee 0 0 0 0 ⟨#[]⟩ w
 have q0:((0:Int) != k)=true:=by rw[bne_iff_ne];omega
 go_enter Tryz.func186,Tryz.ntmps186;go_wp2_with(first
 |(go_at_call 71;refine(nPeek _).mono ?_;rintro e w2 ⟨rfl,b2⟩;have T2:=Hh (T0.out.next b2);clear b2;simp only[Vd,zTok,Int.ofNat_zero,Int.natCast_zero])
 |(go_at_call 73;refine(nWrong _).mono ?_;rintro e w3 ⟨rfl,b3⟩;have T3:=Hh (T2.out.next b3);obtain⟨k0,k1,k2,k3,k4,f0,f1,f2,f3,f4⟩:=Zac T3.out.k0;obtain⟨g0,g1,g2,z0,z1,z2⟩:=Zy T3.out.k1;have hz:=T3.out.k1.inside;clear b3;simp only[Zr,Zap]))
 have hFG:=two_set T3.out.k0 T3.out.k1 (.int .i64 0) (.string ⟨#[]⟩) (.int .i64 0) (.int .i64 0) (.int .i64 0) (.int .i64 1) (.int .i64 0) (.int .i64 0);have hF:=Zan hFG.1;have hG:=Zy hFG.2;refine bodyPost_ret (v:=.tuple #[Vd zTok,Zr Zap]) (by simp[results,Tryz.results186,go_sem,hF,hG,Zr,Zap,zTok,Vd]) rfl ⟨rfl,?_⟩;exact Below.set3 (Below.set5 T3.out.below (Nat.le_refl _) _ _ _ _ _) (Nat.le_succ _) _ _ _
theorem nInt(w:World):Calls Tryz.prog 168 #[.pointer none] w fun e w'=>e=.returned (.tuple #[.int .i64 0,Zr Zap])∧Below w.heap.size w w':=by
 have F:=Hh (Zf.made w 29 #[.int .i64 0,.int .i64 0,.int .i64 0]);go_enter Tryz.func168,Tryz.ntmps168;go_wp2_with(go_at_call 186;refine(nKind _ _ (by decide)).mono ?_;rintro e w3 ⟨rfl,b3⟩;have W0:=Hh (F.out.below b3 (by simp));obtain⟨g0,g1,g2,z0,z1,z2⟩:=Zy W0.out;have hz:=W0.out.inside;have B3:=Hh (Ue (Zi _ _) b3);clear b3;simp only[Vd,zTok,Zr,Zap])
 go_region
 all_goals
  go_wp2
  have hF:=Zy ((((Zf.set3 W0.out (.int .i64 1) (.int .i64 0) (.int .i64 0)).alloc (.cells #[.int .i64 0,.string ⟨#[]⟩,.int .i64 0,.int .i64 0,.int .i64 0] 69)).alloc (.cells #[.int .i64 1,.int .i64 0,.int .i64 0] 29)).drew);refine bodyPost_ret (v:=.tuple #[.int .i64 0,Zr Zap]) (by simp[results,Tryz.results168,go_sem,hF,Zr,Zap]) rfl ⟨rfl,?_⟩;have hb:=Below.set3 B3.out (Nat.le_refl _) (.int .i64 1) (.int .i64 0) (.int .i64 0);exact Wa ((hb.alloc hb.size _).alloc (by have:=hb.size;simp at this ⊢;omega) _)
theorem nName(w:World):Calls Tryz.prog 189 #[.pointer none] w fun e w'=>e=.returned (.tuple #[.string ⟨#[]⟩,Zr Zap])∧Below w.heap.size w w':=by
 have F:=Hh (Zf.made w 29 #[.int .i64 0,.int .i64 0,.int .i64 0]);go_enter Tryz.func189,Tryz.ntmps189;go_wp2_with(go_at_call 186;refine(nKind _ _ (by decide)).mono ?_;rintro e w3 ⟨rfl,b3⟩;have W0:=Hh (F.out.below b3 (by simp));obtain⟨g0,g1,g2,z0,z1,z2⟩:=Zy W0.out;have hz:=W0.out.inside;have B3:=Hh (Ue (Zi _ _) b3);clear b3;simp only[Vd,zTok,Zr,Zap])
 go_region
 all_goals
  go_wp2
  have hF:=Zy ((((Zf.set3 W0.out (.int .i64 1) (.int .i64 0) (.int .i64 0)).alloc (.cells #[.int .i64 0,.string ⟨#[]⟩,.int .i64 0,.int .i64 0,.int .i64 0] 69)).alloc (.cells #[.int .i64 1,.int .i64 0,.int .i64 0] 29)).drew);refine bodyPost_ret (v:=.tuple #[.string ⟨#[]⟩,Zr Zap]) (by simp[results,Tryz.results189,go_sem,hF,Zr,Zap]) rfl ⟨rfl,?_⟩;have hb:=Below.set3 B3.out (Nat.le_refl _) (.int .i64 1) (.int .i64 0) (.int .i64 0);exact Wa ((hb.alloc hb.size _).alloc (by have:=hb.size;simp at this ⊢;omega) _)
theorem nSigned(w:World):Calls Tryz.prog 134 #[.pointer none] w fun e w'=>e=.returned (.tuple #[.int .i64 0,Zr Zap])∧Below w.heap.size w w':=by
 have F:=Hh (Zf.made w 29 #[.int .i64 0,.int .i64 0,.int .i64 0]);go_enter Tryz.func134,Tryz.ntmps134;go_wp2_with(first
 |(go_at_call 128;refine(nIs _ _).mono ?_;rintro e w2 ⟨rfl,b2⟩;have W2:=Hh (F.out.below b2 (by simp));have B2:=Hh (Ue (Zi _ _) b2);clear b2)
 |(go_at_call 168;refine(nInt _).mono ?_;rintro e w3 ⟨rfl,b3⟩;have W0:=Hh (W2.out.below b3 W2.out.inside);obtain⟨g0,g1,g2,z0,z1,z2⟩:=Zy W0.out;have hz:=W0.out.inside;have B3:=Hh (Ue B2.out b3);clear b3;simp only[Zr,Zap]))
 have hF:=Zy (Zf.set3 W0.out (.int .i64 1) (.int .i64 0) (.int .i64 0));refine bodyPost_ret (v:=.tuple #[.int .i64 0,Zr Zap]) (by simp[results,Tryz.results134,go_sem,hF,Zr,Zap]) rfl ⟨rfl,?_⟩;exact Below.set3 B3.out (Nat.le_refl _) _ _ _
theorem nDown(w:World):Calls Tryz.prog 184 #[.pointer none] w fun e w'=>e=.returned (Zr Zap)∧Below w.heap.size w w':=by
 have F:=Hh (Zf.made w 29 #[.int .i64 0,.int .i64 0,.int .i64 0]);go_enter Tryz.func184,Tryz.ntmps184;go_wp2_with(first
 |(go_at_call 96;refine(nStands _).mono ?_;rintro e w1 ⟨rfl,rfl⟩)
 |(go_at_call 97;refine(nHere _ _).mono ?_;rintro e w3 ⟨rfl,b3⟩;have W3:=Hh (F.out.below b3 (by simp));obtain⟨k0,k1,k2,f0,f1,f2⟩:=Zy W3.out;have hz:=W3.out.inside;have B3:=Hh (Ue (Zi _ _) b3);clear b3;simp only[Zr,Zap]))
 have hF:=Zy (Zf.set3 W3.out (.int .i64 1) (.int .i64 0) (.int .i64 0));refine bodyPost_ret (v:=Zr Zap) (by simp[results,Tryz.results184,go_sem,hF,Zr,Zap]) rfl ⟨rfl,?_⟩;exact Below.set3 B3.out (Nat.le_refl _) _ _ _
theorem nUp(w:World):Calls Tryz.prog 185 #[.pointer none] w fun e w'=>e=.returned (.tuple #[])∧w=w':=by
 go_enter Tryz.func185,Tryz.ntmps185;go_wp2
 go_end0
 exact⟨rfl,rfl⟩
def Vx(c:Nat):St→Value
 |.ok _ _=>.pointer (some ⟨c,0,none⟩)
 |.bad _=>.pointer none
def Yx:St→Int×Nat×Nat
 |.ok _ _=>okF
 |.bad F=>F
structure PAt(w:World)(q c r K:Nat)(L:List TokV)(st:St):Prop where
 whole:Zf w q 140 #[Vx c st,.int .i64 (Yx st).1,.int .i64 ((Yx st).2.1:Int),.int .i64 ((Yx st).2.2:Int)]
 cur:∀ a d,st=.ok a d→q≠c∧q≠r∧Vp w c r K L a d
 flt:∀ F,st=.bad F→F.1≠0
 cin:c<w.heap.size
 rin:r<w.heap.size
theorem PAt.keeps{w w':World}{q c r K:Nat}{L:List TokV}{st:St}(h:PAt w q c r K L st){S:Nat→Prop}(hk:Zq S w w')(hq:¬ S q)(hc:¬ S c)(hr:¬ S r):PAt w' q c r K L st:=
 ⟨hk.whole h.whole hq,fun a d e=>⟨(h.cur a d e).1,(h.cur a d e).2.1,(h.cur a d e).2.2.keeps hk hc hr⟩,h.flt,Nat.lt_of_lt_of_le h.cin hk.size,Nat.lt_of_lt_of_le h.rin hk.size⟩
theorem PAt.below{w w':World}{q c r K:Nat}{L:List TokV}{st:St}(h:PAt w q c r K L st)(hb:Below w.heap.size w w'):PAt w' q c r K L st:=
 h.keeps (S:=fun _=>False) (Zq.of_below hb) id id id
structure Xx(w w':World)(q c r K:Nat)(L:List TokV)(st:St):Prop where
 at_:PAt w' q c r K L st
 keeps:Zq (fun k=>k=q∨k=c) w w'
def Xm(w:World)(q c r K:Nat)(L:List TokV)(st:St)(val:Value)(e:Ending)(w':World):Prop:=e=.returned val∧Xx w w' q c r K L st
theorem Xx.start{w:World}{q c r K:Nat}{L:List TokV}{st:St}(h:PAt w q c r K L st):Xx w w q c r K L st:=⟨h,Zq.refl _ _⟩
theorem Xx.next{w x y:World}{q c r K:Nat}{L:List TokV}{st:St}(m:Xx w x q c r K L st)(hb:Below x.heap.size x y):Xx w y q c r K L st:=
 ⟨m.at_.below hb,m.keeps.trans (Zq.of_below hb)⟩
theorem Xx.then{w x y:World}{q c r K:Nat}{L:List TokV}{st st':St}(m:Xx w x q c r K L st)(h:Xx x y q c r K L st'):Xx w y q c r K L st':=
 ⟨h.at_,m.keeps.trans h.keeps⟩
theorem Xx.on{w x y:World}{q c r K:Nat}{L:List TokV}{st:St}(m:Xx w x q c r K L st){G:Nat}(hk:Zq (fun k=>k=G) x y)(hG:w.heap.size≤G)(hq:q<w.heap.size)(hc:c<w.heap.size)(hr:r<w.heap.size):Xx w y q c r K L st:=by
 refine⟨m.at_.keeps hk (by omega) (by omega) (by omega),?_⟩;have h1:Zq (fun k=>(k=q∨k=c)∨k=G) w x:=m.keeps.mono fun k h=>.inl h
 have h2:Zq (fun k=>(k=q∨k=c)∨k=G) x y:=hk.mono fun k h=>.inr h
 exact(h1.trans h2).inner fun k hk h=>by omega
def Zjd(L:List TokV):St→Int×Nat×Nat
 |.ok a _=>wrF (Zv L a)
 |.bad _=>Zap
def wantV(L:List TokV)(t:ByteArray):St→Int×Nat×Nat
 |.ok a _=>wantF L a t
 |.bad _=>Zap
def downV(L:List TokV):St→Int×Nat×Nat
 |.ok a d=>Us L a d
 |.bad _=>Zap
def Zio:St→St
 |.ok a d=>.ok a (Zbm d)
 |.bad F=>.bad F
theorem PAt.step{w x:World}{q c r K:Nat}{L:List TokV}{a d b e:Nat}(h:PAt w q c r K L (.ok a d))(m:Jh w x c r K L b e):Xx w x q c r K L (.ok b e):=by
 obtain⟨h1,h2,h3⟩:=h.cur a d rfl;refine⟨⟨m.keeps.whole h.whole h1,fun a' d' e'=>?_,fun F e'=>(by cases e'),Nat.lt_of_lt_of_le h.cin m.keeps.size,Nat.lt_of_lt_of_le h.rin m.keeps.size⟩,m.keeps.mono fun k hk=>.inr hk⟩;cases e'
 exact⟨h1,h2,m.at_⟩
theorem xPeek(w:World)(q c r K:Nat)(L:List TokV)(st:St)(h:PAt w q c r K L st) :
  Calls Tryz.prog 71 #[Vx c st] w fun e w'=>e=.returned (Vd (st.tok L))∧Below w.heap.size w w':=by
 cases st with
 |ok a d=>exact Zkx w c _ _ _ _ _ _ (h.cur a d rfl).2.2.look
 |bad F=>exact nPeek w
theorem xIs(w:World)(q c r K:Nat)(L:List TokV)(st:St)(t:ByteArray)(h:PAt w q c r K L st) :
  Calls Tryz.prog 128 #[Vx c st,.string t] w fun e w'=>e=.returned (.bool (isS L t st))∧Below w.heap.size w w':=by
 cases st with
 |ok a d=>exact cIs w c _ _ _ _ _ _ t (h.cur a d rfl).2.2.look
 |bad F=>exact nIs w t
theorem xWrong(w:World)(q c r K:Nat)(L:List TokV)(st:St)(h:PAt w q c r K L st) :
  Calls Tryz.prog 73 #[Vx c st] w fun e w'=>e=.returned (Zr (Zjd L st))∧Below w.heap.size w w':=by
 cases st with
 |ok a d=>exact cWrong w c _ _ _ _ _ _ (h.cur a d rfl).2.2.look
 |bad F=>exact nWrong w
theorem Zai(w:World)(q c r K:Nat)(L:List TokV)(st:St)(t:ByteArray)(h:PAt w q c r K L st) :
  Calls Tryz.prog 99 #[Vx c st,.string t] w (Xm w q c r K L (Xw L t st) (.bool (isS L t st))):=by
 cases st with
 |ok a d=>exact(cTake w c r K L a d t (h.cur a d rfl).2.2).mono fun e w' p=>⟨p.1,h.step p.2⟩
 |bad F=>exact(nTake w t).mono fun e w' p=>⟨p.1,(Xx.start h).next p.2⟩
theorem xWant(w:World)(q c r K:Nat)(L:List TokV)(st:St)(t:ByteArray)(h:PAt w q c r K L st) :
  Calls Tryz.prog 190 #[Vx c st,.string t] w (Xm w q c r K L (Xw L t st) (Zr (wantV L t st))):=by
 cases st with
 |ok a d=>exact(cWant w c r K L a d t (h.cur a d rfl).2.2).mono fun e w' p=>⟨p.1,h.step p.2⟩
 |bad F=>exact(nWant w t).mono fun e w' p=>⟨p.1,(Xx.start h).next p.2⟩
theorem xDown(w:World)(q c r K:Nat)(L:List TokV)(st:St)(h:PAt w q c r K L st) :
  Calls Tryz.prog 184 #[Vx c st] w (Xm w q c r K L (Zio st) (Zr (downV L st))):=by
 cases st with
 |ok a d=>exact(cDown w c r K L a d (h.cur a d rfl).2.2).mono fun e w' p=>⟨p.1,h.step p.2⟩
 |bad F=>exact(nDown w).mono fun e w' p=>⟨p.1,(Xx.start h).next p.2⟩
theorem xUp(w:World)(q c r K:Nat)(L:List TokV)(st:St)(h:PAt w q c r K L st) :
  Calls Tryz.prog 185 #[Vx c st] w (Xm w q c r K L (upS st) (.tuple #[])):=by
 cases st with
 |ok a d=>exact(cUp w c r K L a d (h.cur a d rfl).2.2).mono fun e w' p=>⟨p.1,h.step p.2⟩
 |bad F=>exact(nUp w).mono fun e w' p=>⟨p.1,by obtain⟨_,rfl⟩:=p;exact Xx.start h⟩
theorem PAt.cell{w:World}{q c r K:Nat}{L:List TokV}{st:St}(h:PAt w q c r K L st):w.cell? ⟨q,0,none⟩=some (Vx c st):=h.whole.read 0
theorem xNote(w:World)(q c r K:Nat)(L:List TokV)(st:St)(F:Int×Nat×Nat)(h:PAt w q c r K L st) :
  Calls Tryz.prog 72 #[.pointer (some ⟨q,0,none⟩),Zr F] w (Xm w q c r K L (Ui F st) (.tuple #[])):=by
 obtain⟨f0,f1,f2⟩:=F;have nb:=Zi w (.cells #[.int .i64 f0,.int .i64 (f1:Int),.int .i64 (f2:Int)] 29);have h1:=h.below nb;have hc:=h1.cell;have HM:=Hh ((Xx.start h).next nb);have H:=Hh h;have H1:=Hh h1;clear h h1 nb;unfold Zr;cases st with
 |bad G=>
  have hc':(w.alloc (.cells #[.int .i64 f0,.int .i64 (f1:Int),.int .i64 (f2:Int)] 29)).cell? ⟨q,0,none⟩=some (.pointer none):=hc;clear hc;go_enter Tryz.func72,Tryz.ntmps72;go_wp2
  go_end0
  exact⟨rfl,HM.out⟩
 |ok a d=>
  have hc':(w.alloc (.cells #[.int .i64 f0,.int .i64 (f1:Int),.int .i64 (f2:Int)] 29)).cell? ⟨q,0,none⟩=some (.pointer (some ⟨c,0,none⟩)):=hc;clear hc;by_cases hz:f0=0
  ·subst hz
   have hn:Ui (0,f1,f2) (.ok a d)=.ok a d:=by simp[Ui]
   rw[hn];clear hn;go_enter Tryz.func72,Tryz.ntmps72;go_wp2
   go_end0
   exact⟨rfl,HM.out⟩
  ·have hn:Ui (f0,f1,f2) (.ok a d)=.bad (f0,f1,f2):=if_neg hz
   rw[hn];have q1:(f0 != 0)=true:=by rw[bne_iff_ne];exact hz
   have z0:=H1.out.whole.thawed 0;have z1:=H1.out.whole.thawed 1;have z2:=H1.out.whole.thawed 2;have z3:=H1.out.whole.thawed 3;have y1:=H1.out.whole.read 1;have y2:=H1.out.whole.read 2;have y3:=H1.out.whole.read 3;have HZ:=Hh hz;clear hn hz;go_enter Tryz.func72,Tryz.ntmps72;go_wp2
   go_end0
   refine⟨rfl,⟨⟨?_,fun _ _ e=>(by cases e),fun F e=>(by cases e;exact HZ.out),?_,?_⟩,?_⟩⟩
   ·exact(((H1.out.whole.write 1 (.int .i64 f0)).write 2 (.int .i64 (f1:Int))).write 3 (.int .i64 (f2:Int))).write 0 (.pointer none)
   ·have:=H1.out.cin;simpa[World.setCell]using this
   ·have:=H1.out.rin;simpa[World.setCell]using this
   ·exact(((HM.out.keeps.setCell (p:=⟨q,1,none⟩) (.inl rfl) _).setCell (p:=⟨q,2,none⟩) (.inl rfl) _).setCell (p:=⟨q,3,none⟩) (.inl rfl) _).setCell (p:=⟨q,0,none⟩) (.inl rfl) _
theorem want_note(L:List TokV)(t:ByteArray)(st:St):Ui (wantV L t st) (Xw L t st)=Zx L t st:=by
 cases st with
 |ok a d=>
  unfold Zx;show Ui (wantF L a t) (.ok (Zav L a t) d)=if isT (Zv L a) t=true then .ok (Zav L a t) d else .bad (wrF (Zv L a))
  unfold wantF Zav;by_cases h:isT (Zv L a) t=true
  ·rw[if_pos h,if_pos h,if_pos h];rfl
  ·rw[if_neg h,if_neg h,if_neg h];exact if_neg (Zfn _)
 |bad F=>rfl
theorem wrong_note(L:List TokV)(st:St):Ui (Zjd L st) st=Zgf L st:=by
 cases st with
 |ok a d=>exact if_neg (Zfn _)
 |bad F=>rfl
theorem xwant(w:World)(q c r K:Nat)(L:List TokV)(st:St)(t:ByteArray)(h:PAt w q c r K L st) :
  Calls Tryz.prog 170 #[.pointer (some ⟨q,0,none⟩),.string t] w (Xm w q c r K L (Zx L t st) (.tuple #[])):=by
 have hc:=h.cell;have H:=Hh h;rw[←want_note];generalize hv:wantV L t st=v;have hw:∀ w,PAt w q c r K L st→Calls Tryz.prog 190 #[Vx c st,.string t] w (Xm w q c r K L (Xw L t st) (Zr v)):=fun w h=>by rw[←hv];exact xWant w q c r K L st t h
 clear h hv;go_enter Tryz.func170,Tryz.ntmps170;go_wp2_with(first
 |(go_at_call 190;refine(hw _ H.out).mono ?_;rintro e w1 ⟨rfl,m1⟩;have M1:=Hh m1;clear m1)
 |(go_at_call 72;refine(xNote _ q c r K L _ v M1.out.at_).mono ?_;rintro e w2 ⟨rfl,m2⟩;have M2:=Hh (M1.out.then m2);clear m2))
 go_end0
 exact⟨rfl,M2.out⟩
theorem idx_hit(v:TokV):∀(ws:List ByteArray)(k:Nat)(hk:k<ws.length),(∀ j,j<k→isT v (ws.getD j ⟨#[]⟩)=false)→isT v (ws.getD k ⟨#[]⟩)=true→Jl v ws=k+1
 |[],k,hk,_,_=>by cases hk
 |t::r,0,hk,_,h=>if_pos h
 |t::r,k+1,hk,hj,h=>by
  have h0:isT v t=false:=hj 0 (by omega);have ih:=idx_hit v r k (by rw[List.length_cons]at hk;omega) (fun j hjk=>hj (j+1) (by omega)) h;unfold Jl;rw[if_neg (by rw[h0];decide),if_neg (by rw[ih];omega),ih]
theorem idx_miss(v:TokV):∀(ws:List ByteArray),(∀ j,j<ws.length→isT v (ws.getD j ⟨#[]⟩)=false)→Jl v ws=0
 |[],_=>rfl
 |t::r,hj=>by
  have h0:isT v t=false:=hj 0 (by rw[List.length_cons];omega);have ih:=idx_miss v r (fun j hjk=>hj (j+1) (by rw[List.length_cons];omega));unfold Jl;rw[if_neg (by rw[h0];decide),if_pos ih]
theorem Zkv(L:List TokV)(ws:List ByteArray)(st:St)(k:Nat)(hk:k<ws.length)(hj:∀ j,j<k→isS L (ws.getD j ⟨#[]⟩) st=false)(h:isS L (ws.getD k ⟨#[]⟩) st=true) :
  Zh L ws st=k+1∧Zz L ws st=Xw L (ws.getD k ⟨#[]⟩) st:=by
 cases st with
 |ok a d=>
  have hi:=idx_hit (Zv L a) ws k hk hj h;refine⟨hi,?_⟩;rw[show Zz L ws (.ok a d)=.ok (onA L a) d from if_neg (by rw[hi];omega)];show St.ok (onA L a) d=.ok (Zav L a (ws.getD k ⟨#[]⟩)) d;unfold Zav;rw[if_pos (show isT (Zv L a) (ws.getD k ⟨#[]⟩)=true from h)]
 |bad F=>cases h
theorem find_miss(L:List TokV)(ws:List ByteArray)(st:St)(hj:∀ j,j<ws.length→isS L (ws.getD j ⟨#[]⟩) st=false):Zh L ws st=0:=by
 cases st with
 |ok a d=>exact idx_miss (Zv L a) ws hj
 |bad F=>rfl
theorem Vn{L:List TokV}{t:ByteArray}{st:St}(h:isS L t st=false):Xw L t st=st:=by
 cases st with
 |ok a d=>
  show St.ok (Zav L a t) d=.ok a d;unfold Zav;rw[if_neg (by rw[show isT (Zv L a) t=false from h];decide)]
 |bad F=>rfl
def Zmn(w:World)(g:Nat)(ws:List ByteArray):Prop:=Zf w g 9 (ws.map Value.string).toArray
theorem Zmn.at_{w:World}{g:Nat}{ws:List ByteArray}(h:Zmn w g ws){k:Nat}(hk:k<ws.length):w.cell? ⟨g,k,none⟩=some (.string (ws.getD k ⟨#[]⟩)):=by
 rw[Zf.read h k];simp[List.getD,hk]
theorem xfind(w:World)(q c r K:Nat)(L:List TokV)(st:St)(ws:List ByteArray)(g n m:Nat)(h:PAt w q c r K L st)(hw:Zmn w g ws)(hq:g≠q)(hc:g≠c)(hn:n=ws.length)(hl:n≤64) :
  Calls Tryz.prog 75 #[.pointer (some ⟨q,0,none⟩),.slice (some ⟨g,0,none⟩) n m] w (Xm w q c r K L (Zz L ws st) (.int .i64 (Zh L ws st))):=by
 have H:=Hh (And.intro hw (And.intro hq (And.intro hc hn)));have hP:=Hh (Xx.start h);clear h hw hq hc hn;have l64:(n:Int)≤64:=by omega
 go_enter Tryz.func75,Tryz.ntmps75;go_wp2
 go_loopw [9] (fun i wr=>∃ k:Nat,i=.int .i64 k∧k≤n∧Xx w wr q c r K L st∧∀ j,j<k→isS L (ws.getD j ⟨#[]⟩) st=false) (fun i _=>n - (intOf i).toNat)
 case atStart=>exact⟨0,by go_num,Nat.zero_le _,hP.out,fun j hj=>by omega⟩
 case round=>
  obtain⟨k,rfl,hk,hm,hj⟩:=hrel;obtain⟨H1,H2,H3,H4⟩:=H.out;have HJ:=Hh hj;have HM:=Hh hm;have hcell:=hm.at_.cell;have HW:Zmn wr g ws:=hm.keeps.whole H1 (by omega);have HN:=Hh H4;have hnw:k<n→k<ws.length:=fun h=>by omega
  have hwn:¬ k<n→∀ j,j<ws.length→j<k:=fun h j hj=>by omega
  clear H4;by_cases hlt:k<n
  ·have hx:=HW.at_ (k:=k) (hnw hlt)
   have hi:=HW.inside;generalize hv:isS L (ws.getD k ⟨#[]⟩) st=b;have ht:∀ w,PAt w q c r K L st→Calls Tryz.prog 99 #[Vx c st,.string (ws.getD k ⟨#[]⟩)] w (Xm w q c r K L (Xw L (ws.getD k ⟨#[]⟩) st) (.bool b)):=fun w h=>by rw[←hv];exact Zai w q c r K L st _ h
   generalize hX:ws.getD k ⟨#[]⟩=x at *;have HV:=Hh hv;have HX:=Hh hX;clear hX;have hlt':(k:Int)<(n:Int):=by omega
   have HK:=Hh (hnw hlt);clear hm hj H1 H2 H3 HW hv hk hnw hwn;cases b
   ·go_wp2_with(go_at_call 99;refine(ht _ HM.out.at_).mono ?_;rintro e w1 ⟨rfl,m1⟩;have M1:=Hh (HM.out.then m1);clear m1)
    go_roundw
    case rel=>
     have m:=M1.out;rw[Vn HV.out]at m;refine⟨k+1,by go_num,by omega,m,fun j hj=>?_⟩;by_cases e:j=k
     ·subst e;rw[HX.out];exact HV.out
     ·exact HJ.out j (by omega)
    case measure=>simp[intOf];omega
   ·go_wp2_with(go_at_call 99;refine(ht _ HM.out.at_).mono ?_;rintro e w1 ⟨rfl,m1⟩;have M1:=Hh (HM.out.then m1);clear m1)
    go_ret;obtain⟨e1,e2⟩:=Zkv L ws st k HK.out HJ.out (by rw[HX.out];exact HV.out);rw[e1,e2,HX.out];exact⟨rI (by omega),M1.out⟩
  ·have e:=find_miss L ws st (fun j hj=>HJ.out j (hwn hlt j hj))
   have HE:=Hh e;have hge:(n:Int)≤(k:Int):=by omega
   clear hm hj H1 H2 H3 HW e hnw hwn;go_wp2
   go_ret;rw[HE.out,Uz L HE.out];exact⟨rfl,HM.out⟩
theorem xone(w:World)(q c r K:Nat)(L:List TokV)(st:St)(ws:List ByteArray)(g n m:Nat)(h:PAt w q c r K L st)(hw:Zmn w g ws)(hq:g≠q)(hc:g≠c)(hn:n=ws.length)(hl:n≤64) :
  Calls Tryz.prog 167 #[.pointer (some ⟨q,0,none⟩),.slice (some ⟨g,0,none⟩) n m] w (Xm w q c r K L (Zm L ws st) (.int .i64 (Zh L ws st))):=by
 have hf:=xfind w q c r K L st ws g n m h hw hq hc hn hl;have hb:=Zbw;have hF:Zh L ws st=0→Zz L ws st=st:=Uz L;unfold Zm;generalize hk:Zh L ws st=k at *;have HF:=Hh hF;have HK:=Hh hk;clear h hw hq hc hn hl hb hF hk;by_cases h0:k=0
 ·subst h0
  rw[if_pos rfl];rw[HF.out rfl]at hf;rw[←wrong_note];generalize hv:Zjd L st=v;have hw:∀ w,PAt w q c r K L st→Calls Tryz.prog 73 #[Vx c st] w fun e w'=>e=.returned (Zr v)∧Below w.heap.size w w':=fun w h=>by rw[←hv];exact xWrong w q c r K L st h
  clear hv;go_enter Tryz.func167,Tryz.ntmps167;go_wp2_with(first
 |(go_at_call 75;refine hf.mono ?_;rintro e w1 ⟨rfl,m1⟩;have hcell:=m1.at_.cell;have M1:=Hh m1;clear m1)
 |(go_at_call 73;refine(hw _ M1.out.at_).mono ?_;rintro e w2 ⟨rfl,b2⟩;have M2:=Hh (M1.out.next b2);clear b2)
 |(go_at_call 72;refine(xNote _ q c r K L _ v M2.out.at_).mono ?_;rintro e w3 ⟨rfl,m3⟩;have M3:=Hh (M2.out.then m3);clear m3))
  go_ret;exact⟨rfl,M3.out⟩
 ·rw[if_neg h0]
  have q0:((k:Int) == 0)=false:=by rw[beq_eq_false_iff_ne];omega
  clear h0;go_enter Tryz.func167,Tryz.ntmps167;go_wp2_with(go_at_call 75;refine hf.mono ?_;rintro e w1 ⟨rfl,m1⟩;have M1:=Hh m1;clear m1)
  go_ret;exact⟨rfl,M1.out⟩
theorem xoneB(W:World)(q c r K G:Nat)(L:List TokV)(st:St)(ws:List ByteArray)(n m:Nat)(cs:Array Value)(hcs:cs=(ws.map Value.string).toArray)(hG:G=W.heap.size)(h:PAt W q c r K L st)(hn:n=ws.length)(hl:n≤64) :
  Calls Tryz.prog 167 #[.pointer (some ⟨q,0,none⟩),.slice (some ⟨G,0,none⟩) n m] (W.alloc (.cells cs 9)) fun e w'=>e=.returned (.int .i64 (Zh L ws st))∧Xx W w' q c r K L (Zm L ws st):=by
 subst hcs hG;have M1:=(Xx.start h).next (Zi W (.cells (ws.map Value.string).toArray 9));have hq:=h.whole.inside;refine(xone _ q c r K L st ws W.heap.size n m M1.at_ (Zf.made _ _ _) (by omega) (by have:=h.cin;omega) hn hl).mono ?_;rintro e w' ⟨h1,h2⟩;exact⟨h1,M1.then h2⟩
theorem xfindB(W:World)(q c r K G:Nat)(L:List TokV)(st:St)(ws:List ByteArray)(n m:Nat)(cs:Array Value)(hcs:cs=(ws.map Value.string).toArray)(hG:G=W.heap.size)(h:PAt W q c r K L st)(hn:n=ws.length)(hl:n≤64) :
  Calls Tryz.prog 75 #[.pointer (some ⟨q,0,none⟩),.slice (some ⟨G,0,none⟩) n m] (W.alloc (.cells cs 9)) fun e w'=>e=.returned (.int .i64 (Zh L ws st))∧Xx W w' q c r K L (Zz L ws st):=by
 subst hcs hG;have M1:=(Xx.start h).next (Zi W (.cells (ws.map Value.string).toArray 9));have hq:=h.whole.inside;refine(xfind _ q c r K L st ws W.heap.size n m M1.at_ (Zf.made _ _ _) (by omega) (by have:=h.cin;omega) hn hl).mono ?_;rintro e w' ⟨h1,h2⟩;exact⟨h1,M1.then h2⟩
def intF(L:List TokV):St→Int×Nat×Nat
 |.ok a _=>Xz L a 2
 |.bad _=>Zap
def intM(L:List TokV):St→St
 |.ok a d=>.ok (Vj L a 2) d
 |.bad F=>.bad F
def nameF(L:List TokV):St→Int×Nat×Nat
 |.ok a _=>Xz L a 3
 |.bad _=>Zap
def nameM(L:List TokV):St→St
 |.ok a d=>.ok (Vj L a 3) d
 |.bad F=>.bad F
def sigF(L:List TokV):St→Int×Nat×Nat
 |.ok a _=>Zak L a
 |.bad _=>Zap
def sigM(L:List TokV):St→St
 |.ok a d=>.ok (Zch L a) d
 |.bad F=>.bad F
theorem int_note(L:List TokV)(st:St):Ui (intF L st) (intM L st)=Js L st:=by cases st<;>rfl
theorem name_note(L:List TokV)(st:St):Ui (nameF L st) (nameM L st)=Wo L st:=by cases st<;>rfl
theorem sig_note(L:List TokV)(st:St):Ui (sigF L st) (sigM L st)=Uv L st:=by cases st<;>rfl
theorem xInt(w:World)(q c r K:Nat)(L:List TokV)(st:St)(h:PAt w q c r K L st) :
  Calls Tryz.prog 168 #[Vx c st] w (Xm w q c r K L (intM L st) (.tuple #[.int .i64 (Zct L st),Zr (intF L st)])):=by
 cases st with
 |ok a d=>exact(cInt w c r K L a d (h.cur a d rfl).2.2).mono fun e w' p=>⟨p.1,h.step p.2⟩
 |bad F=>exact(nInt w).mono fun e w' p=>⟨p.1,(Xx.start h).next p.2⟩
theorem xName(w:World)(q c r K:Nat)(L:List TokV)(st:St)(h:PAt w q c r K L st) :
  Calls Tryz.prog 189 #[Vx c st] w (Xm w q c r K L (nameM L st) (.tuple #[.string (Zbl L st),Zr (nameF L st)])):=by
 cases st with
 |ok a d=>exact(cName w c r K L a d (h.cur a d rfl).2.2).mono fun e w' p=>⟨p.1,h.step p.2⟩
 |bad F=>exact(nName w).mono fun e w' p=>⟨p.1,(Xx.start h).next p.2⟩
theorem xSigned(w:World)(q c r K:Nat)(L:List TokV)(st:St)(h:PAt w q c r K L st) :
  Calls Tryz.prog 134 #[Vx c st] w (Xm w q c r K L (sigM L st) (.tuple #[.int .i64 (Jv L st),Zr (sigF L st)])):=by
 cases st with
 |ok a d=>exact(cSigned w c r K L a d (h.cur a d rfl).2.2).mono fun e w' p=>⟨p.1,h.step p.2⟩
 |bad F=>exact(nSigned w).mono fun e w' p=>⟨p.1,(Xx.start h).next p.2⟩
theorem xreadInt(w:World)(q c r K:Nat)(L:List TokV)(st:St)(h:PAt w q c r K L st) :
  Calls Tryz.prog 133 #[.pointer (some ⟨q,0,none⟩),.func (.func 168) #[Vx c st] #[]] w (Xm w q c r K L (Js L st) (.int .i64 (Zct L st))):=by
 have H:=Hh h;rw[←int_note];have hi:=xInt w q c r K L st h;generalize intF L st=F at *;obtain⟨f0,f1,f2⟩:=F;have qin:=h.whole.inside;have cin:=h.cin;have rin:=h.rin;clear h;unfold Zr at hi;go_enter Tryz.func133,Tryz.ntmps133;go_wp2_with(first
 |(go_at_call 168;refine hi.mono ?_;rintro e w1 ⟨rfl,m1⟩;have M1:=Hh (m1.next (Zi w1 (.cells #[.int .i64 f0,.int .i64 (f1:Int),.int .i64 (f2:Int)] 29)));clear m1)
 |(go_at_call 72;refine(xNote _ q c r K L _ (f0,f1,f2) M1.out.at_).mono ?_;rintro e w2 ⟨rfl,m2⟩;have M2:=Hh (M1.out.then m2);clear m2))
 go_ret;exact⟨rfl,M2.out⟩
theorem xreadName(w:World)(q c r K:Nat)(L:List TokV)(st:St)(h:PAt w q c r K L st) :
  Calls Tryz.prog 188 #[.pointer (some ⟨q,0,none⟩),.func (.func 189) #[Vx c st] #[]] w (Xm w q c r K L (Wo L st) (.string (Zbl L st))):=by
 have H:=Hh h;rw[←name_note];have hi:=xName w q c r K L st h;generalize nameF L st=F at *;obtain⟨f0,f1,f2⟩:=F;have qin:=h.whole.inside;have cin:=h.cin;have rin:=h.rin;clear h;unfold Zr at hi;go_enter Tryz.func188,Tryz.ntmps188;go_wp2_with(first
 |(go_at_call 189;refine hi.mono ?_;rintro e w1 ⟨rfl,m1⟩;have M1:=Hh (m1.next (Zi w1 (.cells #[.int .i64 f0,.int .i64 (f1:Int),.int .i64 (f2:Int)] 29)));clear m1)
 |(go_at_call 72;refine(xNote _ q c r K L _ (f0,f1,f2) M1.out.at_).mono ?_;rintro e w2 ⟨rfl,m2⟩;have M2:=Hh (M1.out.then m2);clear m2))
 go_ret;exact⟨rfl,M2.out⟩
theorem Zhh(w:World)(q c r K:Nat)(L:List TokV)(st:St)(h:PAt w q c r K L st) :
  Calls Tryz.prog 133 #[.pointer (some ⟨q,0,none⟩),.func (.func 134) #[Vx c st] #[]] w (Xm w q c r K L (Uv L st) (.int .i64 (Jv L st))):=by
 have H:=Hh h;rw[←sig_note];have hi:=xSigned w q c r K L st h;generalize sigF L st=F at *;obtain⟨f0,f1,f2⟩:=F;have qin:=h.whole.inside;have cin:=h.cin;have rin:=h.rin;clear h;unfold Zr at hi;go_enter Tryz.func133,Tryz.ntmps133;go_wp2_with(first
 |(go_at_call 134;refine hi.mono ?_;rintro e w1 ⟨rfl,m1⟩;have M1:=Hh (m1.next (Zi w1 (.cells #[.int .i64 f0,.int .i64 (f1:Int),.int .i64 (f2:Int)] 29)));clear m1)
 |(go_at_call 72;refine(xNote _ q c r K L _ (f0,f1,f2) M1.out.at_).mono ?_;rintro e w2 ⟨rfl,m2⟩;have M2:=Hh (M1.out.then m2);clear m2))
 go_ret;exact⟨rfl,M2.out⟩
theorem Zlx(L:List TokV)(t:ByteArray)(st:St)(h:isS L t st=true):Ui (downV L st) (Zio st)=Zga L t st:=by
 cases st with
 |ok a d=>exact(if_pos h).symm
 |bad F=>cases h
theorem deep_not(L:List TokV)(t:ByteArray)(st:St)(h:isS L t st=false):Zga L t st=st:=by
 cases st with
 |ok a d=>exact if_neg (by rw[show isT (Zv L a) t=false from h];decide)
 |bad F=>rfl
theorem xdescend(w:World)(q c r K:Nat)(L:List TokV)(st:St)(t:ByteArray)(h:PAt w q c r K L st) :
  Calls Tryz.prog 165 #[.pointer (some ⟨q,0,none⟩),.string t] w (Xm w q c r K L (Vf L t st) (.tuple #[])):=by
 have hc:=h.cell;have H:=Hh h;have hi:=xIs w q c r K L st t h;unfold Vf;cases hb:isS L t st
 ·rw[deep_not L t st hb]
  rw[hb]at hi;clear hb h;go_enter Tryz.func165,Tryz.ntmps165;go_wp2_with(first
 |(go_at_call 128;refine hi.mono ?_;rintro e w1 ⟨rfl,b1⟩;have M1:=Hh ((Xx.start H.out).next b1);clear b1)
 |(go_at_call 170;refine(xwant _ q c r K L _ t M1.out.at_).mono ?_;rintro e w2 ⟨rfl,m2⟩;have M2:=Hh (M1.out.then m2);clear m2))
  go_end0
  exact⟨rfl,M2.out⟩
 ·rw[hb]at hi
  rw[←Zlx L t st hb];generalize hv:downV L st=v;have hd:∀ w,PAt w q c r K L st→Calls Tryz.prog 184 #[Vx c st] w (Xm w q c r K L (Zio st) (Zr v)):=fun w h=>by rw[←hv];exact xDown w q c r K L st h
  clear hb h hv;go_enter Tryz.func165,Tryz.ntmps165;go_wp2_with(first
 |(go_at_call 128;refine hi.mono ?_;rintro e w1 ⟨rfl,b1⟩;have hc1:=(H.out.below b1).cell;have M1:=Hh ((Xx.start H.out).next b1);clear b1)
 |(go_at_call 184;refine(hd _ M1.out.at_).mono ?_;rintro e w2 ⟨rfl,m2⟩;have M2:=Hh (M1.out.then m2);clear m2)
 |(go_at_call 72;refine(xNote _ q c r K L _ v M2.out.at_).mono ?_;rintro e w3 ⟨rfl,m3⟩;have M3:=Hh (M2.out.then m3);clear m3)
 |(go_at_call 170;refine(xwant _ q c r K L _ t M3.out.at_).mono ?_;rintro e w4 ⟨rfl,m4⟩;have M4:=Hh (M3.out.then m4);clear m4))
  go_end0
  exact⟨rfl,M4.out⟩
theorem xascend(w:World)(q c r K:Nat)(L:List TokV)(st:St)(t:ByteArray)(h:PAt w q c r K L st) :
  Calls Tryz.prog 166 #[.pointer (some ⟨q,0,none⟩),.string t] w (Xm w q c r K L (Zes L t st) (.tuple #[])):=by
 have H:=Hh h;have hw:=xwant w q c r K L st t h;unfold Zes;generalize Zx L t st=s at *;clear h;go_enter Tryz.func166,Tryz.ntmps166;go_wp2_with(first
 |(go_at_call 170;refine hw.mono ?_;rintro e w1 ⟨rfl,m1⟩;have hcell:=m1.at_.cell;have M1:=Hh m1;clear m1)
 |(go_at_call 185;refine(xUp _ q c r K L _ M1.out.at_).mono ?_;rintro e w2 ⟨rfl,m2⟩;have M2:=Hh (M1.out.then m2);clear m2))
 go_end0
 exact⟨rfl,M2.out⟩
theorem xside(w:World)(q c r K:Nat)(L:List TokV)(st:St)(h:PAt w q c r K L st) :
  Calls Tryz.prog 131 #[.pointer (some ⟨q,0,none⟩)] w (Xm w q c r K L (Zm L Zp st) (.int .i64 (Zh L Zp st))):=by
 have qin:=h.whole.inside;have hf:=xoneB w q c r K _ L st Zp 3 3 _ rfl rfl h rfl (by decide);clear h;go_enter Tryz.func131,Tryz.ntmps131;go_wp2_with(go_at_call 167;refine hf.mono ?_;rintro e w1 ⟨rfl,m1⟩;have M1:=Hh m1;clear m1)
 go_ret;exact⟨rfl,M1.out⟩
theorem xop(w:World)(q c r K:Nat)(L:List TokV)(st:St)(h:PAt w q c r K L st) :
  Calls Tryz.prog 187 #[.pointer (some ⟨q,0,none⟩)] w (Xm w q c r K L (Zm L wOp st) (.int .i64 (Zh L wOp st))):=by
 have qin:=h.whole.inside;have hf:=xoneB w q c r K _ L st wOp 6 6 _ rfl rfl h rfl (by decide);clear h;go_enter Tryz.func187,Tryz.ntmps187;go_wp2_with(go_at_call 167;refine hf.mono ?_;rintro e w1 ⟨rfl,m1⟩;have M1:=Hh m1;clear m1)
 go_ret;exact⟨rfl,M1.out⟩
theorem Zhp:(Tryz.prog.underlying 51).map TypeDesc.isRow=some true:=by kernel_rfl
theorem Uu:(Tryz.prog.info? 51).map (·.size)=some 2:=by kernel_rfl
theorem Yb:(Tryz.prog.info? 3).map (·.size)=some 1:=by kernel_rfl
theorem Xx.put{w x y:World}{q c r K:Nat}{L:List TokV}{st:St}(m:Xx w x q c r K L st){G:Nat}{t:TypeId}{vs:List Value}(p:Put x y G t vs)(hG:w.heap.size≤G)(hq:q<w.heap.size)(hc:c<w.heap.size)(hr:r<w.heap.size):Xx w y q c r K L st:=m.on p.keeps hG hq hc hr
theorem xto(w:World)(q c r K:Nat)(L:List TokV)(st:St)(h:PAt w q c r K L st) :
  Calls Tryz.prog 132 #[.pointer (some ⟨q,0,none⟩)] w (Xm w q c r K L (toS L st) (.agg #[.int .i64 (toK L st),.int .i64 (toL L st)])):=by
 have qin:=h.whole.inside;have cin:=h.cin;have rin:=h.rin;have nb:=Zi w (.cells #[.int .i64 0,.int .i64 0] 51);have M0:=Hh ((Xx.start h).next nb);have R0:=Hh (Zf.made w 51 #[.int .i64 0,.int .i64 0]);have hf:=xoneB _ q c r K (w.heap.size+1) L st wTo 4 4 _ rfl (by simp) M0.out.at_ rfl (by decide);clear h;unfold toS toK toL;generalize hk:Zh L wTo st=k at *;generalize Zm L wTo st=s1 at *;clear hk;by_cases h4:k=4
 ·subst h4
  rw[if_pos rfl,if_pos rfl];rw[show((4:Nat):Int)=4 from rfl]at hf ⊢;go_enter Tryz.func132,Tryz.ntmps132;go_wp2_with(first
 |(go_at_call 167;refine hf.mono ?_;rintro e w1 ⟨rfl,m1⟩
   have nb:=Zi w1 (.cells #[.int .i64 4,.int .i64 0] 51);have hcell:=(m1.at_.below nb).cell;have hz1:w.heap.size+1≤w1.heap.size:=by have:=m1.keeps.size;simp at this;omega
   have T1:=Hh (Zf.made w1 51 #[.int .i64 4,.int .i64 0]);have R1:=Hh ((m1.keeps.whole R0.out (by omega)).below nb (by omega));have M1:=Hh ((M0.out.then m1).next nb);clear m1 nb)
 |(go_at_call 133;refine(xreadInt _ q c r K L _ M1.out.at_).mono ?_;rintro e w2 ⟨rfl,m2⟩
   have hz2:w1.heap.size+1≤w2.heap.size:=by have:=m2.keeps.size;simp at this;omega
   have T2:=Hh (m2.keeps.whole T1.out (by omega));have R2:=Hh (m2.keeps.whole R1.out (by omega));have M2:=Hh (M1.out.then m2);clear m2)
 |((with_reducible refine Zg 18 17 ?_);refine Zj 3 _ _ 51 w1.heap.size 1 [.int .i64 4] (.int .i64 0) (.int .i64 (Zct L s1)) [] T2.out rfl Yb rfl rfl rfl rfl rfl rfl ?_
   intro w3 p3;have T3:=Hh (show Zf w3 w1.heap.size 51 [.int .i64 4,.int .i64 (Zct L s1)].toArray from p3.whole);have R3:=Hh (p3.keeps.whole R2.out (by omega));have M3:=Hh (M2.out.put p3 (by omega) qin cin rin);clear p3)
 |((with_reducible refine Zd 19 ?_);refine Zb 51 _ 51 w1.heap.size _ T3.out Zhp Uu rfl rfl rfl ?_)
 |((with_reducible refine Zg 2 19 ?_);refine Za 51 _ _ 51 w.heap.size _ [.int .i64 4,.int .i64 (Zct L s1)] R3.out rfl Uu (by simp[Value.oneCell']) rfl rfl rfl rfl rfl ?_
   intro w4 p4;have R4:=Hh p4.whole;have M4:=Hh (M3.out.put p4 (Nat.le_refl _) qin cin rin);clear p4))
  exact Wg 2 51 51 w.heap.size _ rfl R4.out Zhp Uu rfl rfl ⟨rfl,M4.out⟩
 ·rw[if_neg h4,if_neg h4]
  have q4:((k:Int) == 4)=false:=by rw[beq_eq_false_iff_ne];omega
  clear h4;go_enter Tryz.func132,Tryz.ntmps132;go_wp2_with(first
 |(go_at_call 167;refine hf.mono ?_;rintro e w1 ⟨rfl,m1⟩
   have nb:=Zi w1 (.cells #[.int .i64 (k:Int),.int .i64 0] 51);have hz1:w.heap.size+1≤w1.heap.size:=by have:=m1.keeps.size;simp at this;omega
   have T1:=Hh (Zf.made w1 51 #[.int .i64 (k:Int),.int .i64 0]);have R1:=Hh ((m1.keeps.whole R0.out (by omega)).below nb (by omega));have M1:=Hh ((M0.out.then m1).next nb);clear m1 nb)
 |((with_reducible refine Zd 19 ?_);refine Zb 51 _ 51 w1.heap.size _ T1.out Zhp Uu rfl rfl rfl ?_)
 |((with_reducible refine Zg 2 19 ?_);refine Za 51 _ _ 51 w.heap.size _ [.int .i64 (k:Int),.int .i64 0] R1.out rfl Uu (by simp[Value.oneCell']) rfl rfl rfl rfl rfl ?_
   intro w4 p4;have R4:=Hh p4.whole;have M4:=Hh (M1.out.put p4 (Nat.le_refl _) qin cin rin);clear p4))
  exact Wg 2 51 51 w.heap.size _ rfl R4.out Zhp Uu rfl rfl ⟨rfl,M4.out⟩
end Go.Proofs.YtdngkgickbaboaaGreat
