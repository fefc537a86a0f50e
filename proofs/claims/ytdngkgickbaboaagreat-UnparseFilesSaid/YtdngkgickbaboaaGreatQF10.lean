/- Parts of the proof. No conditions but those that each names. -/
import Derived.Test.YtdngkgickbaboaaGreatQF9
set_option maxRecDepth 20000
set_option maxHeartbeats 12800000
set_option linter.unusedVariables false
set_option linter.unusedSimpArgs false
namespace Go.Proofs.YtdngkgickbaboaaGreat
open Go.Value renaming int→I,slice→Λ,pointer→Ω,string→Ψ,oneCell'→Γ
open Go.IntKind renaming i64→J
open _root_.Go.Proofs.Tryz renaming prog→Φ
open Nat renaming le_refl→Θ
open And renaming intro→ζ
open Go.Ending renaming returned→η
open Go.ChangeShapes Go.WideShapes Go.ChangeAt Go.RowKit
def Zcf:Int×Nat×Nat:=(1,0,0)
theorem nStands(w:World):Calls Φ 96 #[Ω none] w fun e w'=>e=η (.bool false)∧w=w':=by
 go_enter Tryz.func96,Tryz.ntmps96;go_wp2
 go_ret;exact⟨rfl,rfl⟩
theorem nPeek(w:World):Calls Φ 71 #[Ω none] w fun e w'=>e=η (Vt zTok)∧Below w.heap.size w w':=by
 go_enter Tryz.func71,Tryz.ntmps71;go_wp2_with(go_at_call 96;refine(nStands _).mono ?_;rintro e w1 ⟨rfl,rfl⟩)
 refine bodyPost_ret (v:=Vt zTok) (by simp[results,Tryz.results71,go_sem,Vt,zTok]) rfl ⟨rfl,?_⟩;exact Zj _ _
theorem nHere(w:World)(E:Int):Calls Φ 97 #[Ω none,I J E] w fun e w'=>e=η (Zq Zcf)∧Below w.heap.size w w':=by
 go_enter Tryz.func97,Tryz.ntmps97;go_wp2
 refine bodyPost_ret (v:=Zq Zcf) (by simp[results,Tryz.results97,go_sem,Zq,Zcf]) rfl ⟨rfl,?_⟩;exact Zj _ _
theorem nIs(w:World)(t:ByteArray):Calls Φ 128 #[Ω none,Ψ t] w fun e w'=>e=η (.bool false)∧Below w.heap.size w w':=by
 go_enter Tryz.func128,Tryz.ntmps128;go_wp2_with(go_at_call 71;refine(nPeek _).mono ?_;rintro e w2 ⟨rfl,b2⟩;have B2:=Hh b2;clear b2;simp only[Vt,zTok])
 go_ret;exact⟨rfl,B2.out.alloc B2.out.size _⟩
theorem nTake(w:World)(t:ByteArray):Calls Φ 99 #[Ω none,Ψ t] w fun e w'=>e=η (.bool false)∧Below w.heap.size w w':=by
 go_enter Tryz.func99,Tryz.ntmps99;go_wp2_with(go_at_call 128;refine(nIs _ _).mono ?_;rintro e w2 ⟨rfl,b2⟩;have B2:=Hh b2;clear b2)
 go_ret;exact⟨rfl,B2.out⟩
theorem nWrong(w:World):Calls Φ 73 #[Ω none] w fun e w'=>e=η (Zq Zcf)∧Below w.heap.size w w':=by
 have F:=Hh (Ze.made w 29 #[I J 0,I J 0,I J 0]);have hfd:=fun w=>Zgr 0 0 0 0 ⟨#[]⟩ w
 go_enter Tryz.func73,Tryz.ntmps73;go_wp2_with(first
 |(go_at_call 71;refine(nPeek _).mono ?_;rintro e w2 ⟨rfl,b2⟩;have W2:=Hh (F.out.below b2 (by simp));have B2:=Hh (Jm (Zj _ _) b2);clear b2;simp only[Vt,zTok,Int.ofNat_zero,Int.natCast_zero])
 |(go_at_call 97;refine(nHere _ _).mono ?_;rintro e w3 ⟨rfl,b3⟩;have W3:=Hh (W2.out.below b3 W2.out.inside);obtain⟨k0,k1,k2,f0,f1,f2⟩:=Yc W3.out;have hz:=W3.out.inside;have B3:=Hh (Jm B2.out b3);clear b3;simp only[Zq,Zcf]))
 have hF:=Yc (Ze.set3 W3.out (I J 1) (I J 0) (I J 0));refine bodyPost_ret (v:=Zq Zcf) (by simp[results,Tryz.results73,go_sem,hF,Zq,Zcf]) rfl ⟨rfl,?_⟩;exact Below.set3 B3.out (Θ _) _ _ _
theorem nWant(w:World)(t:ByteArray):Calls Φ 190 #[Ω none,Ψ t] w fun e w'=>e=η (Zq Zcf)∧Below w.heap.size w w':=by
 have F:=Hh (Ze.made w 29 #[I J 0,I J 0,I J 0]);go_enter Tryz.func190,Tryz.ntmps190;go_wp2_with(first
 |(go_at_call 99;refine(nTake _ _).mono ?_;rintro e w2 ⟨rfl,b2⟩;have W2:=Hh (F.out.below b2 (by simp));have B2:=Hh (Jm (Zj _ _) b2);clear b2)
 |(go_at_call 73;refine(nWrong _).mono ?_;rintro e w3 ⟨rfl,b3⟩;have W3:=Hh (W2.out.below b3 W2.out.inside);obtain⟨k0,k1,k2,f0,f1,f2⟩:=Yc W3.out;have hz:=W3.out.inside;have B3:=Hh (Jm B2.out b3);clear b3;simp only[Zq,Zcf]))
 have hF:=Yc (Ze.set3 W3.out (I J 1) (I J 0) (I J 0));refine bodyPost_ret (v:=Zq Zcf) (by simp[results,Tryz.results190,go_sem,hF,Zq,Zcf]) rfl ⟨rfl,?_⟩;exact Below.set3 B3.out (Θ _) _ _ _
theorem nKind(w:World)(k:Int)(hk:0<k):Calls Φ 186 #[Ω none,I J k] w fun e w'=>e=η (.tuple #[Vt zTok,Zq Zcf])∧Below w.heap.size w w':=by
 have T0:=Hh (Two.start w 69 #[I J 0,Ψ ⟨#[]⟩,I J 0,I J 0,I J 0] 29 #[I J 0,I J 0,I J 0]);have hfd:=fun w=>Zgr 0 0 0 0 ⟨#[]⟩ w
 have q0:((0:Int) != k)=true:=by rw[bne_iff_ne];omega
 go_enter Tryz.func186,Tryz.ntmps186;go_wp2_with(first
 |(go_at_call 71;refine(nPeek _).mono ?_;rintro e w2 ⟨rfl,b2⟩;have T2:=Hh (T0.out.next b2);clear b2;simp only[Vt,zTok,Int.ofNat_zero,Int.natCast_zero])
 |(go_at_call 73;refine(nWrong _).mono ?_;rintro e w3 ⟨rfl,b3⟩;have T3:=Hh (T2.out.next b3);obtain⟨k0,k1,k2,k3,k4,f0,f1,f2,f3,f4⟩:=Zbi T3.out.k0;obtain⟨g0,g1,g2,z0,z1,z2⟩:=Yc T3.out.k1;have hz:=T3.out.k1.inside;clear b3;simp only[Zq,Zcf]))
 have hFG:=two_set T3.out.k0 T3.out.k1 (I J 0) (Ψ ⟨#[]⟩) (I J 0) (I J 0) (I J 0) (I J 1) (I J 0) (I J 0);have hF:=Zcc hFG.1;have hG:=Yc hFG.2;refine bodyPost_ret (v:=.tuple #[Vt zTok,Zq Zcf]) (by simp[results,Tryz.results186,go_sem,hF,hG,Zq,Zcf,zTok,Vt]) rfl ⟨rfl,?_⟩;exact Below.set3 (Below.set5 T3.out.below (Θ _) _ _ _ _ _) (Nat.le_succ _) _ _ _
theorem nInt(w:World):Calls Φ 168 #[Ω none] w fun e w'=>e=η (.tuple #[I J 0,Zq Zcf])∧Below w.heap.size w w':=by
 have F:=Hh (Ze.made w 29 #[I J 0,I J 0,I J 0]);go_enter Tryz.func168,Tryz.ntmps168;go_wp2_with(go_at_call 186;refine(nKind _ _ (by decide)).mono ?_;rintro e w3 ⟨rfl,b3⟩;have W0:=Hh (F.out.below b3 (by simp));obtain⟨g0,g1,g2,z0,z1,z2⟩:=Yc W0.out;have hz:=W0.out.inside;have B3:=Hh (Jm (Zj _ _) b3);clear b3;simp only[Vt,zTok,Zq,Zcf])
 go_region
 all_goals
  go_wp2
  have hF:=Yc ((((Ze.set3 W0.out (I J 1) (I J 0) (I J 0)).alloc (.cells #[I J 0,Ψ ⟨#[]⟩,I J 0,I J 0,I J 0] 69)).alloc (.cells #[I J 1,I J 0,I J 0] 29)).drew);refine bodyPost_ret (v:=.tuple #[I J 0,Zq Zcf]) (by simp[results,Tryz.results168,go_sem,hF,Zq,Zcf]) rfl ⟨rfl,?_⟩;have hb:=Below.set3 B3.out (Θ _) (I J 1) (I J 0) (I J 0);exact Wm ((hb.alloc hb.size _).alloc (by have:=hb.size;simp at this ⊢;omega) _)
theorem nName(w:World):Calls Φ 189 #[Ω none] w fun e w'=>e=η (.tuple #[Ψ ⟨#[]⟩,Zq Zcf])∧Below w.heap.size w w':=by
 have F:=Hh (Ze.made w 29 #[I J 0,I J 0,I J 0]);go_enter Tryz.func189,Tryz.ntmps189;go_wp2_with(go_at_call 186;refine(nKind _ _ (by decide)).mono ?_;rintro e w3 ⟨rfl,b3⟩;have W0:=Hh (F.out.below b3 (by simp));obtain⟨g0,g1,g2,z0,z1,z2⟩:=Yc W0.out;have hz:=W0.out.inside;have B3:=Hh (Jm (Zj _ _) b3);clear b3;simp only[Vt,zTok,Zq,Zcf])
 go_region
 all_goals
  go_wp2
  have hF:=Yc ((((Ze.set3 W0.out (I J 1) (I J 0) (I J 0)).alloc (.cells #[I J 0,Ψ ⟨#[]⟩,I J 0,I J 0,I J 0] 69)).alloc (.cells #[I J 1,I J 0,I J 0] 29)).drew);refine bodyPost_ret (v:=.tuple #[Ψ ⟨#[]⟩,Zq Zcf]) (by simp[results,Tryz.results189,go_sem,hF,Zq,Zcf]) rfl ⟨rfl,?_⟩;have hb:=Below.set3 B3.out (Θ _) (I J 1) (I J 0) (I J 0);exact Wm ((hb.alloc hb.size _).alloc (by have:=hb.size;simp at this ⊢;omega) _)
theorem nSigned(w:World):Calls Φ 134 #[Ω none] w fun e w'=>e=η (.tuple #[I J 0,Zq Zcf])∧Below w.heap.size w w':=by
 have F:=Hh (Ze.made w 29 #[I J 0,I J 0,I J 0]);go_enter Tryz.func134,Tryz.ntmps134;go_wp2_with(first
 |(go_at_call 128;refine(nIs _ _).mono ?_;rintro e w2 ⟨rfl,b2⟩;have W2:=Hh (F.out.below b2 (by simp));have B2:=Hh (Jm (Zj _ _) b2);clear b2)
 |(go_at_call 168;refine(nInt _).mono ?_;rintro e w3 ⟨rfl,b3⟩;have W0:=Hh (W2.out.below b3 W2.out.inside);obtain⟨g0,g1,g2,z0,z1,z2⟩:=Yc W0.out;have hz:=W0.out.inside;have B3:=Hh (Jm B2.out b3);clear b3;simp only[Zq,Zcf]))
 have hF:=Yc (Ze.set3 W0.out (I J 1) (I J 0) (I J 0));refine bodyPost_ret (v:=.tuple #[I J 0,Zq Zcf]) (by simp[results,Tryz.results134,go_sem,hF,Zq,Zcf]) rfl ⟨rfl,?_⟩;exact Below.set3 B3.out (Θ _) _ _ _
theorem nDown(w:World):Calls Φ 184 #[Ω none] w fun e w'=>e=η (Zq Zcf)∧Below w.heap.size w w':=by
 have F:=Hh (Ze.made w 29 #[I J 0,I J 0,I J 0]);go_enter Tryz.func184,Tryz.ntmps184;go_wp2_with(first
 |(go_at_call 96;refine(nStands _).mono ?_;rintro e w1 ⟨rfl,rfl⟩)
 |(go_at_call 97;refine(nHere _ _).mono ?_;rintro e w3 ⟨rfl,b3⟩;have W3:=Hh (F.out.below b3 (by simp));obtain⟨k0,k1,k2,f0,f1,f2⟩:=Yc W3.out;have hz:=W3.out.inside;have B3:=Hh (Jm (Zj _ _) b3);clear b3;simp only[Zq,Zcf]))
 have hF:=Yc (Ze.set3 W3.out (I J 1) (I J 0) (I J 0));refine bodyPost_ret (v:=Zq Zcf) (by simp[results,Tryz.results184,go_sem,hF,Zq,Zcf]) rfl ⟨rfl,?_⟩;exact Below.set3 B3.out (Θ _) _ _ _
theorem nUp(w:World):Calls Φ 185 #[Ω none] w fun e w'=>e=η (.tuple #[])∧w=w':=by
 go_enter Tryz.func185,Tryz.ntmps185;go_wp2
 go_end0
 exact⟨rfl,rfl⟩
def Ji(c:Nat):St→Value
 |.ok _ _=>Ω (some ⟨c,0,none⟩)
 |.bad _=>Ω none
def Xd:St→Int×Nat×Nat
 |.ok _ _=>okF
 |.bad F=>F
structure PAt(w:World)(q c r K:Nat)(L:List TokV)(st:St):Prop where
 whole:Ze w q 140 #[Ji c st,I J (Xd st).1,I J ((Xd st).2.1:Int),I J ((Xd st).2.2:Int)]
 cur:∀ a d,st=.ok a d→q≠c∧q≠r∧Ja w c r K L a d
 flt:∀ F,st=.bad F→F.1≠0
 cin:c<w.heap.size
 rin:r<w.heap.size
theorem PAt.keeps{w w':World}{q c r K:Nat}{L:List TokV}{st:St}(h:PAt w q c r K L st){S:Nat→Prop}(hk:Zy S w w')(hq:¬ S q)(hc:¬ S c)(hr:¬ S r):PAt w' q c r K L st:=
 ⟨hk.whole h.whole hq,fun a d e=>⟨(h.cur a d e).1,(h.cur a d e).2.1,(h.cur a d e).2.2.keeps hk hc hr⟩,h.flt,Nat.lt_of_lt_of_le h.cin hk.size,Nat.lt_of_lt_of_le h.rin hk.size⟩
theorem PAt.below{w w':World}{q c r K:Nat}{L:List TokV}{st:St}(h:PAt w q c r K L st)(hb:Below w.heap.size w w'):PAt w' q c r K L st:=
 h.keeps (S:=fun _=>False) (Zy.of_below hb) id id id
structure Wg(w w':World)(q c r K:Nat)(L:List TokV)(st:St):Prop where
 at_:PAt w' q c r K L st
 keeps:Zy (fun k=>k=q∨k=c) w w'
def Xw(w:World)(q c r K:Nat)(L:List TokV)(st:St)(val:Value)(e:Ending)(w':World):Prop:=e=η val∧Wg w w' q c r K L st
theorem Wg.start{w:World}{q c r K:Nat}{L:List TokV}{st:St}(h:PAt w q c r K L st):Wg w w q c r K L st:=⟨h,Zy.refl _ _⟩
theorem Wg.next{w x y:World}{q c r K:Nat}{L:List TokV}{st:St}(m:Wg w x q c r K L st)(hb:Below x.heap.size x y):Wg w y q c r K L st:=
 ⟨m.at_.below hb,m.keeps.trans (Zy.of_below hb)⟩
theorem Wg.then{w x y:World}{q c r K:Nat}{L:List TokV}{st st':St}(m:Wg w x q c r K L st)(h:Wg x y q c r K L st'):Wg w y q c r K L st':=
 ⟨h.at_,m.keeps.trans h.keeps⟩
theorem Wg.on{w x y:World}{q c r K:Nat}{L:List TokV}{st:St}(m:Wg w x q c r K L st){G:Nat}(hk:Zy (fun k=>k=G) x y)(hG:w.heap.size≤G)(hq:q<w.heap.size)(hc:c<w.heap.size)(hr:r<w.heap.size):Wg w y q c r K L st:=by
 refine⟨m.at_.keeps hk (by omega) (by omega) (by omega),?_⟩;have h1:Zy (fun k=>(k=q∨k=c)∨k=G) w x:=m.keeps.mono fun k h=>.inl h
 have h2:Zy (fun k=>(k=q∨k=c)∨k=G) x y:=hk.mono fun k h=>.inr h
 exact(h1.trans h2).inner fun k hk h=>by omega
def Zmg(L:List TokV):St→Int×Nat×Nat
 |.ok a _=>wrF (Zx L a)
 |.bad _=>Zcf
def wantV(L:List TokV)(t:ByteArray):St→Int×Nat×Nat
 |.ok a _=>wantF L a t
 |.bad _=>Zcf
def downV(L:List TokV):St→Int×Nat×Nat
 |.ok a d=>Zab L a d
 |.bad _=>Zcf
def Zlv:St→St
 |.ok a d=>.ok a (Zdd d)
 |.bad F=>.bad F
theorem PAt.step{w x:World}{q c r K:Nat}{L:List TokV}{a d b e:Nat}(h:PAt w q c r K L (.ok a d))(m:Zap w x c r K L b e):Wg w x q c r K L (.ok b e):=by
 obtain⟨h1,h2,h3⟩:=h.cur a d rfl;refine⟨⟨m.keeps.whole h.whole h1,fun a' d' e'=>?_,fun F e'=>(by cases e'),Nat.lt_of_lt_of_le h.cin m.keeps.size,Nat.lt_of_lt_of_le h.rin m.keeps.size⟩,m.keeps.mono fun k hk=>.inr hk⟩;cases e'
 exact⟨h1,h2,m.at_⟩
theorem xPeek(w:World)(q c r K:Nat)(L:List TokV)(st:St)(h:PAt w q c r K L st) :
  Calls Φ 71 #[Ji c st] w fun e w'=>e=η (Vt (st.tok L))∧Below w.heap.size w w':=by
 cases st with
 |ok a d=>exact Zof w c _ _ _ _ _ _ (h.cur a d rfl).2.2.look
 |bad F=>exact nPeek w
theorem xIs(w:World)(q c r K:Nat)(L:List TokV)(st:St)(t:ByteArray)(h:PAt w q c r K L st) :
  Calls Φ 128 #[Ji c st,Ψ t] w fun e w'=>e=η (.bool (isS L t st))∧Below w.heap.size w w':=by
 cases st with
 |ok a d=>exact cIs w c _ _ _ _ _ _ t (h.cur a d rfl).2.2.look
 |bad F=>exact nIs w t
theorem xWrong(w:World)(q c r K:Nat)(L:List TokV)(st:St)(h:PAt w q c r K L st) :
  Calls Φ 73 #[Ji c st] w fun e w'=>e=η (Zq (Zmg L st))∧Below w.heap.size w w':=by
 cases st with
 |ok a d=>exact cWrong w c _ _ _ _ _ _ (h.cur a d rfl).2.2.look
 |bad F=>exact nWrong w
theorem Zbn(w:World)(q c r K:Nat)(L:List TokV)(st:St)(t:ByteArray)(h:PAt w q c r K L st) :
  Calls Φ 99 #[Ji c st,Ψ t] w (Xw w q c r K L (Wf L t st) (.bool (isS L t st))):=by
 cases st with
 |ok a d=>exact(cTake w c r K L a d t (h.cur a d rfl).2.2).mono fun e w' p=>⟨p.1,h.step p.2⟩
 |bad F=>exact(nTake w t).mono fun e w' p=>⟨p.1,(Wg.start h).next p.2⟩
theorem xWant(w:World)(q c r K:Nat)(L:List TokV)(st:St)(t:ByteArray)(h:PAt w q c r K L st) :
  Calls Φ 190 #[Ji c st,Ψ t] w (Xw w q c r K L (Wf L t st) (Zq (wantV L t st))):=by
 cases st with
 |ok a d=>exact(cWant w c r K L a d t (h.cur a d rfl).2.2).mono fun e w' p=>⟨p.1,h.step p.2⟩
 |bad F=>exact(nWant w t).mono fun e w' p=>⟨p.1,(Wg.start h).next p.2⟩
theorem xDown(w:World)(q c r K:Nat)(L:List TokV)(st:St)(h:PAt w q c r K L st) :
  Calls Φ 184 #[Ji c st] w (Xw w q c r K L (Zlv st) (Zq (downV L st))):=by
 cases st with
 |ok a d=>exact(cDown w c r K L a d (h.cur a d rfl).2.2).mono fun e w' p=>⟨p.1,h.step p.2⟩
 |bad F=>exact(nDown w).mono fun e w' p=>⟨p.1,(Wg.start h).next p.2⟩
theorem xUp(w:World)(q c r K:Nat)(L:List TokV)(st:St)(h:PAt w q c r K L st) :
  Calls Φ 185 #[Ji c st] w (Xw w q c r K L (upS st) (.tuple #[])):=by
 cases st with
 |ok a d=>exact(cUp w c r K L a d (h.cur a d rfl).2.2).mono fun e w' p=>⟨p.1,h.step p.2⟩
 |bad F=>exact(nUp w).mono fun e w' p=>⟨p.1,by obtain⟨_,rfl⟩:=p;exact Wg.start h⟩
theorem PAt.cell{w:World}{q c r K:Nat}{L:List TokV}{st:St}(h:PAt w q c r K L st):w.cell? ⟨q,0,none⟩=some (Ji c st):=h.whole.read 0
theorem xNote(w:World)(q c r K:Nat)(L:List TokV)(st:St)(F:Int×Nat×Nat)(h:PAt w q c r K L st) :
  Calls Φ 72 #[Ω (some ⟨q,0,none⟩),Zq F] w (Xw w q c r K L (Jr F st) (.tuple #[])):=by
 obtain⟨f0,f1,f2⟩:=F;have nb:=Zj w (.cells #[I J f0,I J (f1:Int),I J (f2:Int)] 29);have h1:=h.below nb;have hc:=h1.cell;have HM:=Hh ((Wg.start h).next nb);have H:=Hh h;have H1:=Hh h1;clear h h1 nb;unfold Zq;cases st with
 |bad G=>
  have hc':(w.alloc (.cells #[I J f0,I J (f1:Int),I J (f2:Int)] 29)).cell? ⟨q,0,none⟩=some (Ω none):=hc;clear hc;go_enter Tryz.func72,Tryz.ntmps72;go_wp2
  go_end0
  exact⟨rfl,HM.out⟩
 |ok a d=>
  have hc':(w.alloc (.cells #[I J f0,I J (f1:Int),I J (f2:Int)] 29)).cell? ⟨q,0,none⟩=some (Ω (some ⟨c,0,none⟩)):=hc;clear hc;by_cases hz:f0=0
  ·subst hz
   have hn:Jr (0,f1,f2) (.ok a d)=.ok a d:=by simp[Jr]
   rw[hn];clear hn;go_enter Tryz.func72,Tryz.ntmps72;go_wp2
   go_end0
   exact⟨rfl,HM.out⟩
  ·have hn:Jr (f0,f1,f2) (.ok a d)=.bad (f0,f1,f2):=if_neg hz
   rw[hn];have q1:(f0 != 0)=true:=by rw[bne_iff_ne];exact hz
   have z0:=H1.out.whole.thawed 0;have z1:=H1.out.whole.thawed 1;have z2:=H1.out.whole.thawed 2;have z3:=H1.out.whole.thawed 3;have y1:=H1.out.whole.read 1;have y2:=H1.out.whole.read 2;have y3:=H1.out.whole.read 3;have HZ:=Hh hz;clear hn hz;go_enter Tryz.func72,Tryz.ntmps72;go_wp2
   go_end0
   refine⟨rfl,⟨⟨?_,fun _ _ e=>(by cases e),fun F e=>(by cases e;exact HZ.out),?_,?_⟩,?_⟩⟩
   ·exact(((H1.out.whole.write 1 (I J f0)).write 2 (I J (f1:Int))).write 3 (I J (f2:Int))).write 0 (Ω none)
   ·have:=H1.out.cin;simpa[World.setCell]using this
   ·have:=H1.out.rin;simpa[World.setCell]using this
   ·exact(((HM.out.keeps.setCell (p:=⟨q,1,none⟩) (.inl rfl) _).setCell (p:=⟨q,2,none⟩) (.inl rfl) _).setCell (p:=⟨q,3,none⟩) (.inl rfl) _).setCell (p:=⟨q,0,none⟩) (.inl rfl) _
theorem want_note(L:List TokV)(t:ByteArray)(st:St):Jr (wantV L t st) (Wf L t st)=Yb L t st:=by
 cases st with
 |ok a d=>
  unfold Yb;show Jr (wantF L a t) (.ok (Zck L a t) d)=if isT (Zx L a) t=true then .ok (Zck L a t) d else .bad (wrF (Zx L a))
  unfold wantF Zck;by_cases h:isT (Zx L a) t=true
  ·rw[if_pos h,if_pos h,if_pos h];rfl
  ·rw[if_neg h,if_neg h,if_neg h];exact if_neg (Zid _)
 |bad F=>rfl
theorem wrong_note(L:List TokV)(st:St):Jr (Zmg L st) st=Zjb L st:=by
 cases st with
 |ok a d=>exact if_neg (Zid _)
 |bad F=>rfl
theorem xwant(w:World)(q c r K:Nat)(L:List TokV)(st:St)(t:ByteArray)(h:PAt w q c r K L st) :
  Calls Φ 170 #[Ω (some ⟨q,0,none⟩),Ψ t] w (Xw w q c r K L (Yb L t st) (.tuple #[])):=by
 have hc:=h.cell;have H:=Hh h;rw[←want_note];generalize hv:wantV L t st=v;have hw:∀ w,PAt w q c r K L st→Calls Φ 190 #[Ji c st,Ψ t] w (Xw w q c r K L (Wf L t st) (Zq v)):=fun w h=>by rw[←hv];exact xWant w q c r K L st t h
 clear h hv;go_enter Tryz.func170,Tryz.ntmps170;go_wp2_with(first
 |(go_at_call 190;refine(hw _ H.out).mono ?_;rintro e w1 ⟨rfl,m1⟩;have M1:=Hh m1;clear m1)
 |(go_at_call 72;refine(xNote _ q c r K L _ v M1.out.at_).mono ?_;rintro e w2 ⟨rfl,m2⟩;have M2:=Hh (M1.out.then m2);clear m2))
 go_end0
 exact⟨rfl,M2.out⟩
theorem idx_hit(v:TokV):∀(ws:List ByteArray)(k:Nat)(hk:k<ws.length),(∀ j,j<k→isT v (ws.getD j ⟨#[]⟩)=false)→isT v (ws.getD k ⟨#[]⟩)=true→Zar v ws=k+1
 |[],k,hk,_,_=>by cases hk
 |t::r,0,hk,_,h=>if_pos h
 |t::r,k+1,hk,hj,h=>by
  have h0:isT v t=false:=hj 0 (by omega);have ih:=idx_hit v r k (by rw[List.length_cons]at hk;omega) (fun j hjk=>hj (j+1) (by omega)) h;unfold Zar;rw[if_neg (by rw[h0];decide),if_neg (by rw[ih];omega),ih]
theorem idx_miss(v:TokV):∀(ws:List ByteArray),(∀ j,j<ws.length→isT v (ws.getD j ⟨#[]⟩)=false)→Zar v ws=0
 |[],_=>rfl
 |t::r,hj=>by
  have h0:isT v t=false:=hj 0 (by rw[List.length_cons];omega);have ih:=idx_miss v r (fun j hjk=>hj (j+1) (by rw[List.length_cons];omega));unfold Zar;rw[if_neg (by rw[h0];decide),if_pos ih]
theorem Zoc(L:List TokV)(ws:List ByteArray)(st:St)(k:Nat)(hk:k<ws.length)(hj:∀ j,j<k→isS L (ws.getD j ⟨#[]⟩) st=false)(h:isS L (ws.getD k ⟨#[]⟩) st=true) :
  Zh L ws st=k+1∧Yd L ws st=Wf L (ws.getD k ⟨#[]⟩) st:=by
 cases st with
 |ok a d=>
  have hi:=idx_hit (Zx L a) ws k hk hj h;refine⟨hi,?_⟩;rw[show Yd L ws (.ok a d)=.ok (onA L a) d from if_neg (by rw[hi];omega)];show St.ok (onA L a) d=.ok (Zck L a (ws.getD k ⟨#[]⟩)) d;unfold Zck;rw[if_pos (show isT (Zx L a) (ws.getD k ⟨#[]⟩)=true from h)]
 |bad F=>cases h
theorem find_miss(L:List TokV)(ws:List ByteArray)(st:St)(hj:∀ j,j<ws.length→isS L (ws.getD j ⟨#[]⟩) st=false):Zh L ws st=0:=by
 cases st with
 |ok a d=>exact idx_miss (Zx L a) ws hj
 |bad F=>rfl
theorem Ux{L:List TokV}{t:ByteArray}{st:St}(h:isS L t st=false):Wf L t st=st:=by
 cases st with
 |ok a d=>
  show St.ok (Zck L a t) d=.ok a d;unfold Zck;rw[if_neg (by rw[show isT (Zx L a) t=false from h];decide)]
 |bad F=>rfl
def Zpv(w:World)(g:Nat)(ws:List ByteArray):Prop:=Ze w g 9 (ws.map Value.string).toArray
theorem Zpv.at_{w:World}{g:Nat}{ws:List ByteArray}(h:Zpv w g ws){k:Nat}(hk:k<ws.length):w.cell? ⟨g,k,none⟩=some (Ψ (ws.getD k ⟨#[]⟩)):=by
 rw[Ze.read h k];simp[List.getD,hk]
theorem xfind(w:World)(q c r K:Nat)(L:List TokV)(st:St)(ws:List ByteArray)(g n m:Nat)(h:PAt w q c r K L st)(hw:Zpv w g ws)(hq:g≠q)(hc:g≠c)(hn:n=ws.length)(hl:n≤64) :
  Calls Φ 75 #[Ω (some ⟨q,0,none⟩),Λ (some ⟨g,0,none⟩) n m] w (Xw w q c r K L (Yd L ws st) (I J (Zh L ws st))):=by
 have H:=Hh (ζ hw (ζ hq (ζ hc hn)));have hP:=Hh (Wg.start h);clear h hw hq hc hn;have l64:(n:Int)≤64:=by omega
 go_enter Tryz.func75,Tryz.ntmps75;go_wp2
 go_loopw [9] (fun i wr=>∃ k:Nat,i=I J k∧k≤n∧Wg w wr q c r K L st∧∀ j,j<k→isS L (ws.getD j ⟨#[]⟩) st=false) (fun i _=>n - (intOf i).toNat)
 case atStart=>exact⟨0,by go_num,Nat.zero_le _,hP.out,fun j hj=>by omega⟩
 case round=>
  obtain⟨k,rfl,hk,hm,hj⟩:=hrel;obtain⟨H1,H2,H3,H4⟩:=H.out;have HJ:=Hh hj;have HM:=Hh hm;have hcell:=hm.at_.cell;have HW:Zpv wr g ws:=hm.keeps.whole H1 (by omega);have HN:=Hh H4;have hnw:k<n→k<ws.length:=fun h=>by omega
  have hwn:¬ k<n→∀ j,j<ws.length→j<k:=fun h j hj=>by omega
  clear H4;by_cases hlt:k<n
  ·have hx:=HW.at_ (k:=k) (hnw hlt)
   have hi:=HW.inside;generalize hv:isS L (ws.getD k ⟨#[]⟩) st=b;have ht:∀ w,PAt w q c r K L st→Calls Φ 99 #[Ji c st,Ψ (ws.getD k ⟨#[]⟩)] w (Xw w q c r K L (Wf L (ws.getD k ⟨#[]⟩) st) (.bool b)):=fun w h=>by rw[←hv];exact Zbn w q c r K L st _ h
   generalize hX:ws.getD k ⟨#[]⟩=x at *;have HV:=Hh hv;have HX:=Hh hX;clear hX;have hlt':(k:Int)<(n:Int):=by omega
   have HK:=Hh (hnw hlt);clear hm hj H1 H2 H3 HW hv hk hnw hwn;cases b
   ·go_wp2_with(go_at_call 99;refine(ht _ HM.out.at_).mono ?_;rintro e w1 ⟨rfl,m1⟩;have M1:=Hh (HM.out.then m1);clear m1)
    go_roundw
    case rel=>
     have m:=M1.out;rw[Ux HV.out]at m;refine⟨k+1,by go_num,by omega,m,fun j hj=>?_⟩;by_cases e:j=k
     ·subst e;rw[HX.out];exact HV.out
     ·exact HJ.out j (by omega)
    case measure=>simp[intOf];omega
   ·go_wp2_with(go_at_call 99;refine(ht _ HM.out.at_).mono ?_;rintro e w1 ⟨rfl,m1⟩;have M1:=Hh (HM.out.then m1);clear m1)
    go_ret;obtain⟨e1,e2⟩:=Zoc L ws st k HK.out HJ.out (by rw[HX.out];exact HV.out);rw[e1,e2,HX.out];exact⟨rI (by omega),M1.out⟩
  ·have e:=find_miss L ws st (fun j hj=>HJ.out j (hwn hlt j hj))
   have HE:=Hh e;have hge:(n:Int)≤(k:Int):=by omega
   clear hm hj H1 H2 H3 HW e hnw hwn;go_wp2
   go_ret;rw[HE.out,Zah L HE.out];exact⟨rfl,HM.out⟩
theorem xone(w:World)(q c r K:Nat)(L:List TokV)(st:St)(ws:List ByteArray)(g n m:Nat)(h:PAt w q c r K L st)(hw:Zpv w g ws)(hq:g≠q)(hc:g≠c)(hn:n=ws.length)(hl:n≤64) :
  Calls Φ 167 #[Ω (some ⟨q,0,none⟩),Λ (some ⟨g,0,none⟩) n m] w (Xw w q c r K L (Zp L ws st) (I J (Zh L ws st))):=by
 have hf:=xfind w q c r K L st ws g n m h hw hq hc hn hl;have hb:=Zds;have hF:Zh L ws st=0→Yd L ws st=st:=Zah L;unfold Zp;generalize hk:Zh L ws st=k at *;have HF:=Hh hF;have HK:=Hh hk;clear h hw hq hc hn hl hb hF hk;by_cases h0:k=0
 ·subst h0
  rw[if_pos rfl];rw[HF.out rfl]at hf;rw[←wrong_note];generalize hv:Zmg L st=v;have hw:∀ w,PAt w q c r K L st→Calls Φ 73 #[Ji c st] w fun e w'=>e=η (Zq v)∧Below w.heap.size w w':=fun w h=>by rw[←hv];exact xWrong w q c r K L st h
  clear hv;go_enter Tryz.func167,Tryz.ntmps167;go_wp2_with(first
 |(go_at_call 75;refine hf.mono ?_;rintro e w1 ⟨rfl,m1⟩;have hcell:=m1.at_.cell;have M1:=Hh m1;clear m1)
 |(go_at_call 73;refine(hw _ M1.out.at_).mono ?_;rintro e w2 ⟨rfl,b2⟩;have M2:=Hh (M1.out.next b2);clear b2)
 |(go_at_call 72;refine(xNote _ q c r K L _ v M2.out.at_).mono ?_;rintro e w3 ⟨rfl,m3⟩;have M3:=Hh (M2.out.then m3);clear m3))
  go_ret;exact⟨rfl,M3.out⟩
 ·rw[if_neg h0]
  have q0:((k:Int) == 0)=false:=by rw[beq_eq_false_iff_ne];omega
  clear h0;go_enter Tryz.func167,Tryz.ntmps167;go_wp2_with(go_at_call 75;refine hf.mono ?_;rintro e w1 ⟨rfl,m1⟩;have M1:=Hh m1;clear m1)
  go_ret;exact⟨rfl,M1.out⟩
theorem xoneB(W:World)(q c r K G:Nat)(L:List TokV)(st:St)(ws:List ByteArray)(n m:Nat)(cs:Array Value)(hcs:cs=(ws.map Value.string).toArray)(hG:G=W.heap.size)(h:PAt W q c r K L st)(hn:n=ws.length)(hl:n≤64) :
  Calls Φ 167 #[Ω (some ⟨q,0,none⟩),Λ (some ⟨G,0,none⟩) n m] (W.alloc (.cells cs 9)) fun e w'=>e=η (I J (Zh L ws st))∧Wg W w' q c r K L (Zp L ws st):=by
 subst hcs hG;have M1:=(Wg.start h).next (Zj W (.cells (ws.map Value.string).toArray 9));have hq:=h.whole.inside;refine(xone _ q c r K L st ws W.heap.size n m M1.at_ (Ze.made _ _ _) (by omega) (by have:=h.cin;omega) hn hl).mono ?_;rintro e w' ⟨h1,h2⟩;exact⟨h1,M1.then h2⟩
theorem xfindB(W:World)(q c r K G:Nat)(L:List TokV)(st:St)(ws:List ByteArray)(n m:Nat)(cs:Array Value)(hcs:cs=(ws.map Value.string).toArray)(hG:G=W.heap.size)(h:PAt W q c r K L st)(hn:n=ws.length)(hl:n≤64) :
  Calls Φ 75 #[Ω (some ⟨q,0,none⟩),Λ (some ⟨G,0,none⟩) n m] (W.alloc (.cells cs 9)) fun e w'=>e=η (I J (Zh L ws st))∧Wg W w' q c r K L (Yd L ws st):=by
 subst hcs hG;have M1:=(Wg.start h).next (Zj W (.cells (ws.map Value.string).toArray 9));have hq:=h.whole.inside;refine(xfind _ q c r K L st ws W.heap.size n m M1.at_ (Ze.made _ _ _) (by omega) (by have:=h.cin;omega) hn hl).mono ?_;rintro e w' ⟨h1,h2⟩;exact⟨h1,M1.then h2⟩
def intF(L:List TokV):St→Int×Nat×Nat
 |.ok a _=>Wl L a 2
 |.bad _=>Zcf
def intM(L:List TokV):St→St
 |.ok a d=>.ok (Vz L a 2) d
 |.bad F=>.bad F
def nameF(L:List TokV):St→Int×Nat×Nat
 |.ok a _=>Wl L a 3
 |.bad _=>Zcf
def nameM(L:List TokV):St→St
 |.ok a d=>.ok (Vz L a 3) d
 |.bad F=>.bad F
def sigF(L:List TokV):St→Int×Nat×Nat
 |.ok a _=>Zbp L a
 |.bad _=>Zcf
def sigM(L:List TokV):St→St
 |.ok a d=>.ok (Zem L a) d
 |.bad F=>.bad F
theorem int_note(L:List TokV)(st:St):Jr (intF L st) (intM L st)=Zba L st:=by cases st<;>rfl
theorem name_note(L:List TokV)(st:St):Jr (nameF L st) (nameM L st)=Vf L st:=by cases st<;>rfl
theorem sig_note(L:List TokV)(st:St):Jr (sigF L st) (sigM L st)=Zae L st:=by cases st<;>rfl
theorem xInt(w:World)(q c r K:Nat)(L:List TokV)(st:St)(h:PAt w q c r K L st) :
  Calls Φ 168 #[Ji c st] w (Xw w q c r K L (intM L st) (.tuple #[I J (Zfe L st),Zq (intF L st)])):=by
 cases st with
 |ok a d=>exact(cInt w c r K L a d (h.cur a d rfl).2.2).mono fun e w' p=>⟨p.1,h.step p.2⟩
 |bad F=>exact(nInt w).mono fun e w' p=>⟨p.1,(Wg.start h).next p.2⟩
theorem xName(w:World)(q c r K:Nat)(L:List TokV)(st:St)(h:PAt w q c r K L st) :
  Calls Φ 189 #[Ji c st] w (Xw w q c r K L (nameM L st) (.tuple #[Ψ (Zdc L st),Zq (nameF L st)])):=by
 cases st with
 |ok a d=>exact(cName w c r K L a d (h.cur a d rfl).2.2).mono fun e w' p=>⟨p.1,h.step p.2⟩
 |bad F=>exact(nName w).mono fun e w' p=>⟨p.1,(Wg.start h).next p.2⟩
theorem xSigned(w:World)(q c r K:Nat)(L:List TokV)(st:St)(h:PAt w q c r K L st) :
  Calls Φ 134 #[Ji c st] w (Xw w q c r K L (sigM L st) (.tuple #[I J (Zbe L st),Zq (sigF L st)])):=by
 cases st with
 |ok a d=>exact(cSigned w c r K L a d (h.cur a d rfl).2.2).mono fun e w' p=>⟨p.1,h.step p.2⟩
 |bad F=>exact(nSigned w).mono fun e w' p=>⟨p.1,(Wg.start h).next p.2⟩
theorem xreadInt(w:World)(q c r K:Nat)(L:List TokV)(st:St)(h:PAt w q c r K L st) :
  Calls Φ 133 #[Ω (some ⟨q,0,none⟩),.func (.func 168) #[Ji c st] #[]] w (Xw w q c r K L (Zba L st) (I J (Zfe L st))):=by
 have H:=Hh h;rw[←int_note];have hi:=xInt w q c r K L st h;generalize intF L st=F at *;obtain⟨f0,f1,f2⟩:=F;have qin:=h.whole.inside;have cin:=h.cin;have rin:=h.rin;clear h;unfold Zq at hi;go_enter Tryz.func133,Tryz.ntmps133;go_wp2_with(first
 |(go_at_call 168;refine hi.mono ?_;rintro e w1 ⟨rfl,m1⟩;have M1:=Hh (m1.next (Zj w1 (.cells #[I J f0,I J (f1:Int),I J (f2:Int)] 29)));clear m1)
 |(go_at_call 72;refine(xNote _ q c r K L _ (f0,f1,f2) M1.out.at_).mono ?_;rintro e w2 ⟨rfl,m2⟩;have M2:=Hh (M1.out.then m2);clear m2))
 go_ret;exact⟨rfl,M2.out⟩
theorem xreadName(w:World)(q c r K:Nat)(L:List TokV)(st:St)(h:PAt w q c r K L st) :
  Calls Φ 188 #[Ω (some ⟨q,0,none⟩),.func (.func 189) #[Ji c st] #[]] w (Xw w q c r K L (Vf L st) (Ψ (Zdc L st))):=by
 have H:=Hh h;rw[←name_note];have hi:=xName w q c r K L st h;generalize nameF L st=F at *;obtain⟨f0,f1,f2⟩:=F;have qin:=h.whole.inside;have cin:=h.cin;have rin:=h.rin;clear h;unfold Zq at hi;go_enter Tryz.func188,Tryz.ntmps188;go_wp2_with(first
 |(go_at_call 189;refine hi.mono ?_;rintro e w1 ⟨rfl,m1⟩;have M1:=Hh (m1.next (Zj w1 (.cells #[I J f0,I J (f1:Int),I J (f2:Int)] 29)));clear m1)
 |(go_at_call 72;refine(xNote _ q c r K L _ (f0,f1,f2) M1.out.at_).mono ?_;rintro e w2 ⟨rfl,m2⟩;have M2:=Hh (M1.out.then m2);clear m2))
 go_ret;exact⟨rfl,M2.out⟩
theorem Zkj(w:World)(q c r K:Nat)(L:List TokV)(st:St)(h:PAt w q c r K L st) :
  Calls Φ 133 #[Ω (some ⟨q,0,none⟩),.func (.func 134) #[Ji c st] #[]] w (Xw w q c r K L (Zae L st) (I J (Zbe L st))):=by
 have H:=Hh h;rw[←sig_note];have hi:=xSigned w q c r K L st h;generalize sigF L st=F at *;obtain⟨f0,f1,f2⟩:=F;have qin:=h.whole.inside;have cin:=h.cin;have rin:=h.rin;clear h;unfold Zq at hi;go_enter Tryz.func133,Tryz.ntmps133;go_wp2_with(first
 |(go_at_call 134;refine hi.mono ?_;rintro e w1 ⟨rfl,m1⟩;have M1:=Hh (m1.next (Zj w1 (.cells #[I J f0,I J (f1:Int),I J (f2:Int)] 29)));clear m1)
 |(go_at_call 72;refine(xNote _ q c r K L _ (f0,f1,f2) M1.out.at_).mono ?_;rintro e w2 ⟨rfl,m2⟩;have M2:=Hh (M1.out.then m2);clear m2))
 go_ret;exact⟨rfl,M2.out⟩
theorem Zpg(L:List TokV)(t:ByteArray)(st:St)(h:isS L t st=true):Jr (downV L st) (Zlv st)=Ziu L t st:=by
 cases st with
 |ok a d=>exact(if_pos h).symm
 |bad F=>cases h
theorem deep_not(L:List TokV)(t:ByteArray)(st:St)(h:isS L t st=false):Ziu L t st=st:=by
 cases st with
 |ok a d=>exact if_neg (by rw[show isT (Zx L a) t=false from h];decide)
 |bad F=>rfl
theorem xdescend(w:World)(q c r K:Nat)(L:List TokV)(st:St)(t:ByteArray)(h:PAt w q c r K L st) :
  Calls Φ 165 #[Ω (some ⟨q,0,none⟩),Ψ t] w (Xw w q c r K L (Vw L t st) (.tuple #[])):=by
 have hc:=h.cell;have H:=Hh h;have hi:=xIs w q c r K L st t h;unfold Vw;cases hb:isS L t st
 ·rw[deep_not L t st hb]
  rw[hb]at hi;clear hb h;go_enter Tryz.func165,Tryz.ntmps165;go_wp2_with(first
 |(go_at_call 128;refine hi.mono ?_;rintro e w1 ⟨rfl,b1⟩;have M1:=Hh ((Wg.start H.out).next b1);clear b1)
 |(go_at_call 170;refine(xwant _ q c r K L _ t M1.out.at_).mono ?_;rintro e w2 ⟨rfl,m2⟩;have M2:=Hh (M1.out.then m2);clear m2))
  go_end0
  exact⟨rfl,M2.out⟩
 ·rw[hb]at hi
  rw[←Zpg L t st hb];generalize hv:downV L st=v;have hd:∀ w,PAt w q c r K L st→Calls Φ 184 #[Ji c st] w (Xw w q c r K L (Zlv st) (Zq v)):=fun w h=>by rw[←hv];exact xDown w q c r K L st h
  clear hb h hv;go_enter Tryz.func165,Tryz.ntmps165;go_wp2_with(first
 |(go_at_call 128;refine hi.mono ?_;rintro e w1 ⟨rfl,b1⟩;have hc1:=(H.out.below b1).cell;have M1:=Hh ((Wg.start H.out).next b1);clear b1)
 |(go_at_call 184;refine(hd _ M1.out.at_).mono ?_;rintro e w2 ⟨rfl,m2⟩;have M2:=Hh (M1.out.then m2);clear m2)
 |(go_at_call 72;refine(xNote _ q c r K L _ v M2.out.at_).mono ?_;rintro e w3 ⟨rfl,m3⟩;have M3:=Hh (M2.out.then m3);clear m3)
 |(go_at_call 170;refine(xwant _ q c r K L _ t M3.out.at_).mono ?_;rintro e w4 ⟨rfl,m4⟩;have M4:=Hh (M3.out.then m4);clear m4))
  go_end0
  exact⟨rfl,M4.out⟩
theorem xascend(w:World)(q c r K:Nat)(L:List TokV)(st:St)(t:ByteArray)(h:PAt w q c r K L st) :
  Calls Φ 166 #[Ω (some ⟨q,0,none⟩),Ψ t] w (Xw w q c r K L (Zhe L t st) (.tuple #[])):=by
 have H:=Hh h;have hw:=xwant w q c r K L st t h;unfold Zhe;generalize Yb L t st=s at *;clear h;go_enter Tryz.func166,Tryz.ntmps166;go_wp2_with(first
 |(go_at_call 170;refine hw.mono ?_;rintro e w1 ⟨rfl,m1⟩;have hcell:=m1.at_.cell;have M1:=Hh m1;clear m1)
 |(go_at_call 185;refine(xUp _ q c r K L _ M1.out.at_).mono ?_;rintro e w2 ⟨rfl,m2⟩;have M2:=Hh (M1.out.then m2);clear m2))
 go_end0
 exact⟨rfl,M2.out⟩
theorem xside(w:World)(q c r K:Nat)(L:List TokV)(st:St)(h:PAt w q c r K L st) :
  Calls Φ 131 #[Ω (some ⟨q,0,none⟩)] w (Xw w q c r K L (Zp L Zg st) (I J (Zh L Zg st))):=by
 have qin:=h.whole.inside;have hf:=xoneB w q c r K _ L st Zg 3 3 _ rfl rfl h rfl (by decide);clear h;go_enter Tryz.func131,Tryz.ntmps131;go_wp2_with(go_at_call 167;refine hf.mono ?_;rintro e w1 ⟨rfl,m1⟩;have M1:=Hh m1;clear m1)
 go_ret;exact⟨rfl,M1.out⟩
theorem xop(w:World)(q c r K:Nat)(L:List TokV)(st:St)(h:PAt w q c r K L st) :
  Calls Φ 187 #[Ω (some ⟨q,0,none⟩)] w (Xw w q c r K L (Zp L wOp st) (I J (Zh L wOp st))):=by
 have qin:=h.whole.inside;have hf:=xoneB w q c r K _ L st wOp 6 6 _ rfl rfl h rfl (by decide);clear h;go_enter Tryz.func187,Tryz.ntmps187;go_wp2_with(go_at_call 167;refine hf.mono ?_;rintro e w1 ⟨rfl,m1⟩;have M1:=Hh m1;clear m1)
 go_ret;exact⟨rfl,M1.out⟩
theorem Zku:(Tryz.prog.underlying 51).map TypeDesc.isRow=some true:=by kernel_rfl
theorem Zad:(Tryz.prog.info? 51).map (·.size)=some 2:=by kernel_rfl
theorem Yk:(Tryz.prog.info? 3).map (·.size)=some 1:=by kernel_rfl
theorem Wg.put{w x y:World}{q c r K:Nat}{L:List TokV}{st:St}(m:Wg w x q c r K L st){G:Nat}{t:TypeId}{vs:List Value}(p:Put x y G t vs)(hG:w.heap.size≤G)(hq:q<w.heap.size)(hc:c<w.heap.size)(hr:r<w.heap.size):Wg w y q c r K L st:=m.on p.keeps hG hq hc hr
theorem xto(w:World)(q c r K:Nat)(L:List TokV)(st:St)(h:PAt w q c r K L st) :
  Calls Φ 132 #[Ω (some ⟨q,0,none⟩)] w (Xw w q c r K L (toS L st) (.agg #[I J (toK L st),I J (toL L st)])):=by
 have qin:=h.whole.inside;have cin:=h.cin;have rin:=h.rin;have nb:=Zj w (.cells #[I J 0,I J 0] 51);have M0:=Hh ((Wg.start h).next nb);have R0:=Hh (Ze.made w 51 #[I J 0,I J 0]);have hf:=xoneB _ q c r K (w.heap.size+1) L st wTo 4 4 _ rfl (by simp) M0.out.at_ rfl (by decide);clear h;unfold toS toK toL;generalize hk:Zh L wTo st=k at *;generalize Zp L wTo st=s1 at *;clear hk;by_cases h4:k=4
 ·subst h4
  rw[if_pos rfl,if_pos rfl];rw[show((4:Nat):Int)=4 from rfl]at hf ⊢;go_enter Tryz.func132,Tryz.ntmps132;go_wp2_with(first
 |(go_at_call 167;refine hf.mono ?_;rintro e w1 ⟨rfl,m1⟩
   have nb:=Zj w1 (.cells #[I J 4,I J 0] 51);have hcell:=(m1.at_.below nb).cell;have hz1:w.heap.size+1≤w1.heap.size:=by have:=m1.keeps.size;simp at this;omega
   have T1:=Hh (Ze.made w1 51 #[I J 4,I J 0]);have R1:=Hh ((m1.keeps.whole R0.out (by omega)).below nb (by omega));have M1:=Hh ((M0.out.then m1).next nb);clear m1 nb)
 |(go_at_call 133;refine(xreadInt _ q c r K L _ M1.out.at_).mono ?_;rintro e w2 ⟨rfl,m2⟩
   have hz2:w1.heap.size+1≤w2.heap.size:=by have:=m2.keeps.size;simp at this;omega
   have T2:=Hh (m2.keeps.whole T1.out (by omega));have R2:=Hh (m2.keeps.whole R1.out (by omega));have M2:=Hh (M1.out.then m2);clear m2)
 |((with_reducible refine Zi 18 17 ?_);refine Zm 3 _ _ 51 w1.heap.size 1 [I J 4] (I J 0) (I J (Zfe L s1)) [] T2.out rfl Yk rfl rfl rfl rfl rfl rfl ?_
   intro w3 p3;have T3:=Hh (show Ze w3 w1.heap.size 51 [I J 4,I J (Zfe L s1)].toArray from p3.whole);have R3:=Hh (p3.keeps.whole R2.out (by omega));have M3:=Hh (M2.out.put p3 (by omega) qin cin rin);clear p3)
 |((with_reducible refine Zd 19 ?_);refine Zb 51 _ 51 w1.heap.size _ T3.out Zku Zad rfl rfl rfl ?_)
 |((with_reducible refine Zi 2 19 ?_);refine Za 51 _ _ 51 w.heap.size _ [I J 4,I J (Zfe L s1)] R3.out rfl Zad (by simp[Γ]) rfl rfl rfl rfl rfl ?_
   intro w4 p4;have R4:=Hh p4.whole;have M4:=Hh (M3.out.put p4 (Θ _) qin cin rin);clear p4))
  exact Wu 2 51 51 w.heap.size _ rfl R4.out Zku Zad rfl rfl ⟨rfl,M4.out⟩
 ·rw[if_neg h4,if_neg h4]
  have q4:((k:Int) == 4)=false:=by rw[beq_eq_false_iff_ne];omega
  clear h4;go_enter Tryz.func132,Tryz.ntmps132;go_wp2_with(first
 |(go_at_call 167;refine hf.mono ?_;rintro e w1 ⟨rfl,m1⟩
   have nb:=Zj w1 (.cells #[I J (k:Int),I J 0] 51);have hz1:w.heap.size+1≤w1.heap.size:=by have:=m1.keeps.size;simp at this;omega
   have T1:=Hh (Ze.made w1 51 #[I J (k:Int),I J 0]);have R1:=Hh ((m1.keeps.whole R0.out (by omega)).below nb (by omega));have M1:=Hh ((M0.out.then m1).next nb);clear m1 nb)
 |((with_reducible refine Zd 19 ?_);refine Zb 51 _ 51 w1.heap.size _ T1.out Zku Zad rfl rfl rfl ?_)
 |((with_reducible refine Zi 2 19 ?_);refine Za 51 _ _ 51 w.heap.size _ [I J (k:Int),I J 0] R1.out rfl Zad (by simp[Γ]) rfl rfl rfl rfl rfl ?_
   intro w4 p4;have R4:=Hh p4.whole;have M4:=Hh (M1.out.put p4 (Θ _) qin cin rin);clear p4))
  exact Wu 2 51 51 w.heap.size _ rfl R4.out Zku Zad rfl rfl ⟨rfl,M4.out⟩
end Go.Proofs.YtdngkgickbaboaaGreat
