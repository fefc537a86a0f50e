/- Parts of the proof. No conditions but those that each names. -/
import Derived.Test.YtbdecchpleiepaaGreatQL9
set_option maxRecDepth 20000
set_option maxHeartbeats 99000000
set_option linter.unusedVariables false
set_option linter.unusedSimpArgs false
namespace Go.Proofs.YtbdecchpleiepaaGreat
open Go.Value renaming int→I,slice→Λ,pointer→Ω,string→Ψ
open Go.IntKind renaming i64→J
open _root_.Go.Proofs.Tryz renaming prog→Φ
open Nat renaming le_refl→Θ
open And renaming intro→ζ
open Go.Ending renaming returned→η
open Go.ChangeShapes Go.WideShapes Go.ChangeAt Go.RowKit
def Zch:Int×Nat×Nat:=(1,0,0)
theorem nStands(w:World):Calls Φ 76 #[Ω none] w fun e w'=>e=η (.bool false)∧w=w':=by
 go_enter Tryz.func76,Tryz.ntmps76;go_wp2
 go_ret;exact⟨rfl,rfl⟩
theorem nPeek(w:World):Calls Φ 55 #[Ω none] w fun e w'=>e=η (Wz Zhz)∧Below w.heap.size w w':=by
 go_enter Tryz.func55,Tryz.ntmps55;go_wp2_with(go_at_call 76;refine(nStands _).mono ?_;rintro e w1 ⟨rfl,rfl⟩)
 refine bodyPost_ret (v:=Wz Zhz) (by simp[results,Tryz.results55,go_sem,Wz,Zhz]) rfl ⟨rfl,?_⟩;exact Zh _ _
theorem nHere(w:World)(E:Int):Calls Φ 77 #[Ω none,I J E] w fun e w'=>e=η (Zr Zch)∧Below w.heap.size w w':=by
 go_enter Tryz.func77,Tryz.ntmps77;go_wp2
 refine bodyPost_ret (v:=Zr Zch) (by simp[results,Tryz.results77,go_sem,Zr,Zch]) rfl ⟨rfl,?_⟩;exact Zh _ _
theorem nIs(w:World)(t:ByteArray):Calls Φ 78 #[Ω none,Ψ t] w fun e w'=>e=η (.bool false)∧Below w.heap.size w w':=by
 go_enter Tryz.func78,Tryz.ntmps78;go_wp2_with(go_at_call 55;refine(nPeek _).mono ?_;rintro e w2 ⟨rfl,b2⟩;have B2:=Hh b2;clear b2;simp only[Wz,Zhz])
 go_ret;exact⟨rfl,B2.out.alloc B2.out.size _⟩
theorem nTake(w:World)(t:ByteArray):Calls Φ 58 #[Ω none,Ψ t] w fun e w'=>e=η (.bool false)∧Below w.heap.size w w':=by
 go_enter Tryz.func58,Tryz.ntmps58;go_wp2_with(go_at_call 78;refine(nIs _ _).mono ?_;rintro e w2 ⟨rfl,b2⟩;have B2:=Hh b2;clear b2)
 go_ret;exact⟨rfl,B2.out⟩
theorem nWrong(w:World):Calls Φ 57 #[Ω none] w fun e w'=>e=η (Zr Zch)∧Below w.heap.size w w':=by
 have F:=Hh (Zi.made w 29 #[I J 0,I J 0,I J 0]);have hfd:=fun w=>Zfb 0 0 0 0 ⟨#[]⟩ w
 go_enter Tryz.func57,Tryz.ntmps57;go_wp2_with(first
 |(go_at_call 55;refine(nPeek _).mono ?_;rintro e w2 ⟨rfl,b2⟩;have W2:=Hh (F.out.below b2 (by simp));have B2:=Hh (Wg (Zh _ _) b2);clear b2;simp only[Wz,Zhz,Int.ofNat_zero,Int.natCast_zero])
 |(go_at_call 77;refine(nHere _ _).mono ?_;rintro e w3 ⟨rfl,b3⟩;have W3:=Hh (W2.out.below b3 W2.out.inside);obtain⟨k0,k1,k2,f0,f1,f2⟩:=Zo W3.out;have hz:=W3.out.inside;have B3:=Hh (Wg B2.out b3);clear b3;simp only[Zr,Zch]))
 have hF:=Zo (Zi.set3 W3.out (I J 1) (I J 0) (I J 0));refine bodyPost_ret (v:=Zr Zch) (by simp[results,Tryz.results57,go_sem,hF,Zr,Zch]) rfl ⟨rfl,?_⟩;exact Below.set3 B3.out (Θ _) _ _ _
theorem nWant(w:World)(t:ByteArray):Calls Φ 107 #[Ω none,Ψ t] w fun e w'=>e=η (Zr Zch)∧Below w.heap.size w w':=by
 have F:=Hh (Zi.made w 29 #[I J 0,I J 0,I J 0]);go_enter Tryz.func107,Tryz.ntmps107;go_wp2_with(first
 |(go_at_call 58;refine(nTake _ _).mono ?_;rintro e w2 ⟨rfl,b2⟩;have W2:=Hh (F.out.below b2 (by simp));have B2:=Hh (Wg (Zh _ _) b2);clear b2)
 |(go_at_call 57;refine(nWrong _).mono ?_;rintro e w3 ⟨rfl,b3⟩;have W3:=Hh (W2.out.below b3 W2.out.inside);obtain⟨k0,k1,k2,f0,f1,f2⟩:=Zo W3.out;have hz:=W3.out.inside;have B3:=Hh (Wg B2.out b3);clear b3;simp only[Zr,Zch]))
 have hF:=Zo (Zi.set3 W3.out (I J 1) (I J 0) (I J 0));refine bodyPost_ret (v:=Zr Zch) (by simp[results,Tryz.results107,go_sem,hF,Zr,Zch]) rfl ⟨rfl,?_⟩;exact Below.set3 B3.out (Θ _) _ _ _
theorem nKind(w:World)(k:Int)(hk:0<k):Calls Φ 106 #[Ω none,I J k] w fun e w'=>e=η (.tuple #[Wz Zhz,Zr Zch])∧Below w.heap.size w w':=by
 have T0:=Hh (Two.start w 54 #[I J 0,Ψ ⟨#[]⟩,I J 0,I J 0,I J 0] 29 #[I J 0,I J 0,I J 0]);have hfd:=fun w=>Zfb 0 0 0 0 ⟨#[]⟩ w
 have q0:((0:Int) != k)=true:=by rw[bne_iff_ne];omega
 go_enter Tryz.func106,Tryz.ntmps106;go_wp2_with(first
 |(go_at_call 55;refine(nPeek _).mono ?_;rintro e w2 ⟨rfl,b2⟩;have T2:=Hh (T0.out.next b2);clear b2;simp only[Wz,Zhz,Int.ofNat_zero,Int.natCast_zero])
 |(go_at_call 57;refine(nWrong _).mono ?_;rintro e w3 ⟨rfl,b3⟩;have T3:=Hh (T2.out.next b3);obtain⟨k0,k1,k2,k3,k4,f0,f1,f2,f3,f4⟩:=Zah T3.out.k0;obtain⟨g0,g1,g2,z0,z1,z2⟩:=Zo T3.out.k1;have hz:=T3.out.k1.inside;clear b3;simp only[Zr,Zch]))
 have hFG:=two_set T3.out.k0 T3.out.k1 (I J 0) (Ψ ⟨#[]⟩) (I J 0) (I J 0) (I J 0) (I J 1) (I J 0) (I J 0);have hF:=Zaw hFG.1;have hG:=Zo hFG.2;refine bodyPost_ret (v:=.tuple #[Wz Zhz,Zr Zch]) (by simp[results,Tryz.results106,go_sem,hF,hG,Zr,Zch,Zhz,Wz]) rfl ⟨rfl,?_⟩;exact Below.set3 (Below.set5 T3.out.below (Θ _) _ _ _ _ _) (Nat.le_succ _) _ _ _
theorem nInt(w:World):Calls Φ 84 #[Ω none] w fun e w'=>e=η (.tuple #[I J 0,Zr Zch])∧Below w.heap.size w w':=by
 have F:=Hh (Zi.made w 29 #[I J 0,I J 0,I J 0]);go_enter Tryz.func84,Tryz.ntmps84;go_wp2_with(go_at_call 106;refine(nKind _ _ (by decide)).mono ?_;rintro e w3 ⟨rfl,b3⟩;have W0:=Hh (F.out.below b3 (by simp));obtain⟨g0,g1,g2,z0,z1,z2⟩:=Zo W0.out;have hz:=W0.out.inside;have B3:=Hh (Wg (Zh _ _) b3);clear b3;simp only[Wz,Zhz,Zr,Zch])
 go_region
 all_goals
  go_wp2
  have hF:=Zo ((((Zi.set3 W0.out (I J 1) (I J 0) (I J 0)).alloc (.cells #[I J 0,Ψ ⟨#[]⟩,I J 0,I J 0,I J 0] 54)).alloc (.cells #[I J 1,I J 0,I J 0] 29)).drew);refine bodyPost_ret (v:=.tuple #[I J 0,Zr Zch]) (by simp[results,Tryz.results84,go_sem,hF,Zr,Zch]) rfl ⟨rfl,?_⟩;have hb:=Below.set3 B3.out (Θ _) (I J 1) (I J 0) (I J 0);exact Xv ((hb.alloc hb.size _).alloc (by have:=hb.size;simp at this ⊢;omega) _)
theorem nName(w:World):Calls Φ 81 #[Ω none] w fun e w'=>e=η (.tuple #[Ψ ⟨#[]⟩,Zr Zch])∧Below w.heap.size w w':=by
 have F:=Hh (Zi.made w 29 #[I J 0,I J 0,I J 0]);go_enter Tryz.func81,Tryz.ntmps81;go_wp2_with(go_at_call 106;refine(nKind _ _ (by decide)).mono ?_;rintro e w3 ⟨rfl,b3⟩;have W0:=Hh (F.out.below b3 (by simp));obtain⟨g0,g1,g2,z0,z1,z2⟩:=Zo W0.out;have hz:=W0.out.inside;have B3:=Hh (Wg (Zh _ _) b3);clear b3;simp only[Wz,Zhz,Zr,Zch])
 go_region
 all_goals
  go_wp2
  have hF:=Zo ((((Zi.set3 W0.out (I J 1) (I J 0) (I J 0)).alloc (.cells #[I J 0,Ψ ⟨#[]⟩,I J 0,I J 0,I J 0] 54)).alloc (.cells #[I J 1,I J 0,I J 0] 29)).drew);refine bodyPost_ret (v:=.tuple #[Ψ ⟨#[]⟩,Zr Zch]) (by simp[results,Tryz.results81,go_sem,hF,Zr,Zch]) rfl ⟨rfl,?_⟩;have hb:=Below.set3 B3.out (Θ _) (I J 1) (I J 0) (I J 0);exact Xv ((hb.alloc hb.size _).alloc (by have:=hb.size;simp at this ⊢;omega) _)
theorem nSigned(w:World):Calls Φ 85 #[Ω none] w fun e w'=>e=η (.tuple #[I J 0,Zr Zch])∧Below w.heap.size w w':=by
 have F:=Hh (Zi.made w 29 #[I J 0,I J 0,I J 0]);go_enter Tryz.func85,Tryz.ntmps85;go_wp2_with(first
 |(go_at_call 78;refine(nIs _ _).mono ?_;rintro e w2 ⟨rfl,b2⟩;have W2:=Hh (F.out.below b2 (by simp));have B2:=Hh (Wg (Zh _ _) b2);clear b2)
 |(go_at_call 84;refine(nInt _).mono ?_;rintro e w3 ⟨rfl,b3⟩;have W0:=Hh (W2.out.below b3 W2.out.inside);obtain⟨g0,g1,g2,z0,z1,z2⟩:=Zo W0.out;have hz:=W0.out.inside;have B3:=Hh (Wg B2.out b3);clear b3;simp only[Zr,Zch]))
 have hF:=Zo (Zi.set3 W0.out (I J 1) (I J 0) (I J 0));refine bodyPost_ret (v:=.tuple #[I J 0,Zr Zch]) (by simp[results,Tryz.results85,go_sem,hF,Zr,Zch]) rfl ⟨rfl,?_⟩;exact Below.set3 B3.out (Θ _) _ _ _
def Zdi(c:Nat):St→Value
 |.ok _ _=>Ω (some ⟨c,0,none⟩)
 |.bad _=>Ω none
def Xb:St→Int×Nat×Nat
 |.ok _ _=>okF
 |.bad F=>F
structure PAt(w:World)(q c r K:Nat)(L:List TokV)(st:St):Prop where
 whole:Zi w q 118 #[Zdi c st,I J (Xb st).1,I J ((Xb st).2.1:Int),I J ((Xb st).2.2:Int)]
 cur:∀ a d,st=.ok a d→q≠c∧q≠r∧Uf w c r K L a d
 flt:∀ F,st=.bad F→F.1≠0
 cin:c<w.heap.size
 rin:r<w.heap.size
theorem PAt.keeps{w w':World}{q c r K:Nat}{L:List TokV}{st:St}(h:PAt w q c r K L st){S:Nat→Prop}(hk:Zy S w w')(hq:¬ S q)(hc:¬ S c)(hr:¬ S r):PAt w' q c r K L st:=
 ⟨hk.whole h.whole hq,fun a d e=>⟨(h.cur a d e).1,(h.cur a d e).2.1,(h.cur a d e).2.2.keeps hk hc hr⟩,h.flt,Nat.lt_of_lt_of_le h.cin hk.size,Nat.lt_of_lt_of_le h.rin hk.size⟩
theorem PAt.below{w w':World}{q c r K:Nat}{L:List TokV}{st:St}(h:PAt w q c r K L st)(hb:Below w.heap.size w w'):PAt w' q c r K L st:=
 h.keeps (S:=fun _=>False) (Zy.of_below hb) id id id
structure Xw(w w':World)(q c r K:Nat)(L:List TokV)(st:St):Prop where
 at_:PAt w' q c r K L st
 keeps:Zy (fun k=>k=q∨k=c) w w'
def Ue(w:World)(q c r K:Nat)(L:List TokV)(st:St)(val:Value)(e:Ending)(w':World):Prop:=e=η val∧Xw w w' q c r K L st
theorem Xw.start{w:World}{q c r K:Nat}{L:List TokV}{st:St}(h:PAt w q c r K L st):Xw w w q c r K L st:=⟨h,Zy.refl _ _⟩
theorem Xw.next{w x y:World}{q c r K:Nat}{L:List TokV}{st:St}(m:Xw w x q c r K L st)(hb:Below x.heap.size x y):Xw w y q c r K L st:=
 ⟨m.at_.below hb,m.keeps.trans (Zy.of_below hb)⟩
theorem Xw.then{w x y:World}{q c r K:Nat}{L:List TokV}{st st':St}(m:Xw w x q c r K L st)(h:Xw x y q c r K L st'):Xw w y q c r K L st':=
 ⟨h.at_,m.keeps.trans h.keeps⟩
theorem Xw.on{w x y:World}{q c r K:Nat}{L:List TokV}{st:St}(m:Xw w x q c r K L st){G:Nat}(hk:Zy (fun k=>k=G) x y)(hG:w.heap.size≤G)(hq:q<w.heap.size)(hc:c<w.heap.size)(hr:r<w.heap.size):Xw w y q c r K L st:=by
 refine⟨m.at_.keeps hk (by omega) (by omega) (by omega),?_⟩;have h1:Zy (fun k=>(k=q∨k=c)∨k=G) w x:=m.keeps.mono fun k h=>.inl h
 have h2:Zy (fun k=>(k=q∨k=c)∨k=G) x y:=hk.mono fun k h=>.inr h
 exact(h1.trans h2).inner fun k hk h=>by omega
def Zkk(L:List TokV):St→Int×Nat×Nat
 |.ok a _=>wrF (Yb L a)
 |.bad _=>Zch
def wantV(L:List TokV)(t:ByteArray):St→Int×Nat×Nat
 |.ok a _=>wantF L a t
 |.bad _=>Zch
def downV(L:List TokV):St→Int×Nat×Nat
 |.ok a d=>Jq L a d
 |.bad _=>Zch
def Zpa:St→St
 |.ok a d=>.ok a (Zdg d)
 |.bad F=>.bad F
theorem PAt.step{w x:World}{q c r K:Nat}{L:List TokV}{a d b e:Nat}(h:PAt w q c r K L (.ok a d))(m:Zaf w x c r K L b e):Xw w x q c r K L (.ok b e):=by
 obtain⟨h1,h2,h3⟩:=h.cur a d rfl;refine⟨⟨m.keeps.whole h.whole h1,fun a' d' e'=>?_,fun F e'=>(by cases e'),Nat.lt_of_lt_of_le h.cin m.keeps.size,Nat.lt_of_lt_of_le h.rin m.keeps.size⟩,m.keeps.mono fun k hk=>.inr hk⟩;cases e'
 exact⟨h1,h2,m.at_⟩
theorem xPeek(w:World)(q c r K:Nat)(L:List TokV)(st:St)(h:PAt w q c r K L st) :
  Calls Φ 55 #[Zdi c st] w fun e w'=>e=η (Wz (st.tok L))∧Below w.heap.size w w':=by
 cases st with
 |ok a d=>exact Zmg w c _ _ _ _ _ _ (h.cur a d rfl).2.2.look
 |bad F=>exact nPeek w
theorem xIs(w:World)(q c r K:Nat)(L:List TokV)(st:St)(t:ByteArray)(h:PAt w q c r K L st) :
  Calls Φ 78 #[Zdi c st,Ψ t] w fun e w'=>e=η (.bool (isS L t st))∧Below w.heap.size w w':=by
 cases st with
 |ok a d=>exact cIs w c _ _ _ _ _ _ t (h.cur a d rfl).2.2.look
 |bad F=>exact nIs w t
theorem xWrong(w:World)(q c r K:Nat)(L:List TokV)(st:St)(h:PAt w q c r K L st) :
  Calls Φ 57 #[Zdi c st] w fun e w'=>e=η (Zr (Zkk L st))∧Below w.heap.size w w':=by
 cases st with
 |ok a d=>exact cWrong w c _ _ _ _ _ _ (h.cur a d rfl).2.2.look
 |bad F=>exact nWrong w
theorem Zic(w:World)(q c r K:Nat)(L:List TokV)(st:St)(t:ByteArray)(h:PAt w q c r K L st) :
  Calls Φ 58 #[Zdi c st,Ψ t] w (Ue w q c r K L (Vu L t st) (.bool (isS L t st))):=by
 cases st with
 |ok a d=>exact(cTake w c r K L a d t (h.cur a d rfl).2.2).mono fun e w' p=>⟨p.1,h.step p.2⟩
 |bad F=>exact(nTake w t).mono fun e w' p=>⟨p.1,(Xw.start h).next p.2⟩
theorem xWant(w:World)(q c r K:Nat)(L:List TokV)(st:St)(t:ByteArray)(h:PAt w q c r K L st) :
  Calls Φ 107 #[Zdi c st,Ψ t] w (Ue w q c r K L (Vu L t st) (Zr (wantV L t st))):=by
 cases st with
 |ok a d=>exact(cWant w c r K L a d t (h.cur a d rfl).2.2).mono fun e w' p=>⟨p.1,h.step p.2⟩
 |bad F=>exact(nWant w t).mono fun e w' p=>⟨p.1,(Xw.start h).next p.2⟩
theorem PAt.cell{w:World}{q c r K:Nat}{L:List TokV}{st:St}(h:PAt w q c r K L st):w.cell? ⟨q,0,none⟩=some (Zdi c st):=h.whole.read 0
theorem xNote(w:World)(q c r K:Nat)(L:List TokV)(st:St)(F:Int×Nat×Nat)(h:PAt w q c r K L st) :
  Calls Φ 56 #[Ω (some ⟨q,0,none⟩),Zr F] w (Ue w q c r K L (Ji F st) (.tuple #[])):=by
 obtain⟨f0,f1,f2⟩:=F;have nb:=Zh w (.cells #[I J f0,I J (f1:Int),I J (f2:Int)] 29);have h1:=h.below nb;have hc:=h1.cell;have HM:=Hh ((Xw.start h).next nb);have H:=Hh h;have H1:=Hh h1;clear h h1 nb;unfold Zr;cases st with
 |bad G=>
  have hc':(w.alloc (.cells #[I J f0,I J (f1:Int),I J (f2:Int)] 29)).cell? ⟨q,0,none⟩=some (Ω none):=hc;clear hc;go_enter Tryz.func56,Tryz.ntmps56;go_wp2
  go_end0
  exact⟨rfl,HM.out⟩
 |ok a d=>
  have hc':(w.alloc (.cells #[I J f0,I J (f1:Int),I J (f2:Int)] 29)).cell? ⟨q,0,none⟩=some (Ω (some ⟨c,0,none⟩)):=hc;clear hc;by_cases hz:f0=0
  ·subst hz
   have hn:Ji (0,f1,f2) (.ok a d)=.ok a d:=by simp[Ji]
   rw[hn];clear hn;go_enter Tryz.func56,Tryz.ntmps56;go_wp2
   go_end0
   exact⟨rfl,HM.out⟩
  ·have hn:Ji (f0,f1,f2) (.ok a d)=.bad (f0,f1,f2):=if_neg hz
   rw[hn];have q1:(f0 != 0)=true:=by rw[bne_iff_ne];exact hz
   have z0:=H1.out.whole.thawed 0;have z1:=H1.out.whole.thawed 1;have z2:=H1.out.whole.thawed 2;have z3:=H1.out.whole.thawed 3;have y1:=H1.out.whole.read 1;have y2:=H1.out.whole.read 2;have y3:=H1.out.whole.read 3;have HZ:=Hh hz;clear hn hz;go_enter Tryz.func56,Tryz.ntmps56;go_wp2
   go_end0
   refine⟨rfl,⟨⟨?_,fun _ _ e=>(by cases e),fun F e=>(by cases e;exact HZ.out),?_,?_⟩,?_⟩⟩
   ·exact(((H1.out.whole.write 1 (I J f0)).write 2 (I J (f1:Int))).write 3 (I J (f2:Int))).write 0 (Ω none)
   ·have:=H1.out.cin;simpa[World.setCell]using this
   ·have:=H1.out.rin;simpa[World.setCell]using this
   ·exact(((HM.out.keeps.setCell (p:=⟨q,1,none⟩) (.inl rfl) _).setCell (p:=⟨q,2,none⟩) (.inl rfl) _).setCell (p:=⟨q,3,none⟩) (.inl rfl) _).setCell (p:=⟨q,0,none⟩) (.inl rfl) _
theorem want_note(L:List TokV)(t:ByteArray)(st:St):Ji (wantV L t st) (Vu L t st)=Zz L t st:=by
 cases st with
 |ok a d=>
  unfold Zz;show Ji (wantF L a t) (.ok (Zbz L a t) d)=if isT (Yb L a) t=true then .ok (Zbz L a t) d else .bad (wrF (Yb L a))
  unfold wantF Zbz;by_cases h:isT (Yb L a) t=true
  ·rw[if_pos h,if_pos h,if_pos h];rfl
  ·rw[if_neg h,if_neg h,if_neg h];exact if_neg (Zhb _)
 |bad F=>rfl
theorem wrong_note(L:List TokV)(st:St):Ji (Zkk L st) st=Zid L st:=by
 cases st with
 |ok a d=>exact if_neg (Zhb _)
 |bad F=>rfl
theorem xwant(w:World)(q c r K:Nat)(L:List TokV)(st:St)(t:ByteArray)(h:PAt w q c r K L st) :
  Calls Φ 82 #[Ω (some ⟨q,0,none⟩),Ψ t] w (Ue w q c r K L (Zz L t st) (.tuple #[])):=by
 have hc:=h.cell;have H:=Hh h;rw[←want_note];generalize hv:wantV L t st=v;have hw:∀ w,PAt w q c r K L st→Calls Φ 107 #[Zdi c st,Ψ t] w (Ue w q c r K L (Vu L t st) (Zr v)):=fun w h=>by rw[←hv];exact xWant w q c r K L st t h
 clear h hv;go_enter Tryz.func82,Tryz.ntmps82;go_wp2_with(first
 |(go_at_call 107;refine(hw _ H.out).mono ?_;rintro e w1 ⟨rfl,m1⟩;have M1:=Hh m1;clear m1)
 |(go_at_call 56;refine(xNote _ q c r K L _ v M1.out.at_).mono ?_;rintro e w2 ⟨rfl,m2⟩;have M2:=Hh (M1.out.then m2);clear m2))
 go_end0
 exact⟨rfl,M2.out⟩
theorem idx_hit(v:TokV):∀(ws:List ByteArray)(k:Nat)(hk:k<ws.length),(∀ j,j<k→isT v (ws.getD j ⟨#[]⟩)=false)→isT v (ws.getD k ⟨#[]⟩)=true→Zaz v ws=k+1
 |[],k,hk,_,_=>by cases hk
 |t::r,0,hk,_,h=>if_pos h
 |t::r,k+1,hk,hj,h=>by
  have h0:isT v t=false:=hj 0 (by omega);have ih:=idx_hit v r k (by rw[List.length_cons]at hk;omega) (fun j hjk=>hj (j+1) (by omega)) h;unfold Zaz;rw[if_neg (by rw[h0];decide),if_neg (by rw[ih];omega),ih]
theorem idx_miss(v:TokV):∀(ws:List ByteArray),(∀ j,j<ws.length→isT v (ws.getD j ⟨#[]⟩)=false)→Zaz v ws=0
 |[],_=>rfl
 |t::r,hj=>by
  have h0:isT v t=false:=hj 0 (by rw[List.length_cons];omega);have ih:=idx_miss v r (fun j hjk=>hj (j+1) (by rw[List.length_cons];omega));unfold Zaz;rw[if_neg (by rw[h0];decide),if_pos ih]
theorem find_hit(L:List TokV)(ws:List ByteArray)(st:St)(k:Nat)(hk:k<ws.length)(hj:∀ j,j<k→isS L (ws.getD j ⟨#[]⟩) st=false)(h:isS L (ws.getD k ⟨#[]⟩) st=true) :
  Zk L ws st=k+1∧Ye L ws st=Vu L (ws.getD k ⟨#[]⟩) st:=by
 cases st with
 |ok a d=>
  have hi:=idx_hit (Yb L a) ws k hk hj h;refine⟨hi,?_⟩;rw[show Ye L ws (.ok a d)=.ok (onA L a) d from if_neg (by rw[hi];omega)];show St.ok (onA L a) d=.ok (Zbz L a (ws.getD k ⟨#[]⟩)) d;unfold Zbz;rw[if_pos (show isT (Yb L a) (ws.getD k ⟨#[]⟩)=true from h)]
 |bad F=>cases h
theorem find_miss(L:List TokV)(ws:List ByteArray)(st:St)(hj:∀ j,j<ws.length→isS L (ws.getD j ⟨#[]⟩) st=false):Zk L ws st=0:=by
 cases st with
 |ok a d=>exact idx_miss (Yb L a) ws hj
 |bad F=>rfl
theorem Zcb{L:List TokV}{t:ByteArray}{st:St}(h:isS L t st=false):Vu L t st=st:=by
 cases st with
 |ok a d=>
  show St.ok (Zbz L a t) d=.ok a d;unfold Zbz;rw[if_neg (by rw[show isT (Yb L a) t=false from h];decide)]
 |bad F=>rfl
def Zoa(w:World)(g:Nat)(ws:List ByteArray):Prop:=Zi w g 9 (ws.map Value.string).toArray
theorem Zoa.at_{w:World}{g:Nat}{ws:List ByteArray}(h:Zoa w g ws){k:Nat}(hk:k<ws.length):w.cell? ⟨g,k,none⟩=some (Ψ (ws.getD k ⟨#[]⟩)):=by
 rw[Zi.read h k];simp[List.getD,hk]
theorem xfind(w:World)(q c r K:Nat)(L:List TokV)(st:St)(ws:List ByteArray)(g n m:Nat)(h:PAt w q c r K L st)(hw:Zoa w g ws)(hq:g≠q)(hc:g≠c)(hn:n=ws.length)(hl:n≤64) :
  Calls Φ 108 #[Ω (some ⟨q,0,none⟩),Λ (some ⟨g,0,none⟩) n m] w (Ue w q c r K L (Ye L ws st) (I J (Zk L ws st))):=by
 have H:=Hh (ζ hw (ζ hq (ζ hc hn)));have hP:=Hh (Xw.start h);clear h hw hq hc hn;have l64:(n:Int)≤64:=by omega
 go_enter Tryz.func108,Tryz.ntmps108;go_wp2
 go_loopw [9] (fun i wr=>∃ k:Nat,i=I J k∧k≤n∧Xw w wr q c r K L st∧∀ j,j<k→isS L (ws.getD j ⟨#[]⟩) st=false) (fun i _=>n - (intOf i).toNat)
 case atStart=>exact⟨0,by go_num,Nat.zero_le _,hP.out,fun j hj=>by omega⟩
 case round=>
  obtain⟨k,rfl,hk,hm,hj⟩:=hrel;obtain⟨H1,H2,H3,H4⟩:=H.out;have HJ:=Hh hj;have HM:=Hh hm;have hcell:=hm.at_.cell;have HW:Zoa wr g ws:=hm.keeps.whole H1 (by omega);have HN:=Hh H4;have hnw:k<n→k<ws.length:=fun h=>by omega
  have hwn:¬ k<n→∀ j,j<ws.length→j<k:=fun h j hj=>by omega
  clear H4;by_cases hlt:k<n
  ·have hx:=HW.at_ (k:=k) (hnw hlt)
   have hi:=HW.inside;generalize hv:isS L (ws.getD k ⟨#[]⟩) st=b;have ht:∀ w,PAt w q c r K L st→Calls Φ 58 #[Zdi c st,Ψ (ws.getD k ⟨#[]⟩)] w (Ue w q c r K L (Vu L (ws.getD k ⟨#[]⟩) st) (.bool b)):=fun w h=>by rw[←hv];exact Zic w q c r K L st _ h
   generalize hX:ws.getD k ⟨#[]⟩=x at *;have HV:=Hh hv;have HX:=Hh hX;clear hX;have hlt':(k:Int)<(n:Int):=by omega
   have HK:=Hh (hnw hlt);clear hm hj H1 H2 H3 HW hv hk hnw hwn;cases b
   ·go_wp2_with(go_at_call 58;refine(ht _ HM.out.at_).mono ?_;rintro e w1 ⟨rfl,m1⟩;have M1:=Hh (HM.out.then m1);clear m1)
    go_roundw
    case rel=>
     have m:=M1.out;rw[Zcb HV.out]at m;refine⟨k+1,by go_num,by omega,m,fun j hj=>?_⟩;by_cases e:j=k
     ·subst e;rw[HX.out];exact HV.out
     ·exact HJ.out j (by omega)
    case measure=>simp[intOf];omega
   ·go_wp2_with(go_at_call 58;refine(ht _ HM.out.at_).mono ?_;rintro e w1 ⟨rfl,m1⟩;have M1:=Hh (HM.out.then m1);clear m1)
    go_ret;obtain⟨e1,e2⟩:=find_hit L ws st k HK.out HJ.out (by rw[HX.out];exact HV.out);rw[e1,e2,HX.out];exact⟨rI (by omega),M1.out⟩
  ·have e:=find_miss L ws st (fun j hj=>HJ.out j (hwn hlt j hj))
   have HE:=Hh e;have hge:(n:Int)≤(k:Int):=by omega
   clear hm hj H1 H2 H3 HW e hnw hwn;go_wp2
   go_ret;rw[HE.out,Uh L HE.out];exact⟨rfl,HM.out⟩
theorem xone(w:World)(q c r K:Nat)(L:List TokV)(st:St)(ws:List ByteArray)(g n m:Nat)(h:PAt w q c r K L st)(hw:Zoa w g ws)(hq:g≠q)(hc:g≠c)(hn:n=ws.length)(hl:n≤64) :
  Calls Φ 186 #[Ω (some ⟨q,0,none⟩),Λ (some ⟨g,0,none⟩) n m] w (Ue w q c r K L (Zn L ws st) (I J (Zk L ws st))):=by
 have hf:=xfind w q c r K L st ws g n m h hw hq hc hn hl;have hb:=Zey;have hF:Zk L ws st=0→Ye L ws st=st:=Uh L;unfold Zn;generalize hk:Zk L ws st=k at *;have HF:=Hh hF;have HK:=Hh hk;clear h hw hq hc hn hl hb hF hk;by_cases h0:k=0
 ·subst h0
  rw[if_pos rfl];rw[HF.out rfl]at hf;rw[←wrong_note];generalize hv:Zkk L st=v;have hw:∀ w,PAt w q c r K L st→Calls Φ 57 #[Zdi c st] w fun e w'=>e=η (Zr v)∧Below w.heap.size w w':=fun w h=>by rw[←hv];exact xWrong w q c r K L st h
  clear hv;go_enter Tryz.func186,Tryz.ntmps186;go_wp2_with(first
 |(go_at_call 108;refine hf.mono ?_;rintro e w1 ⟨rfl,m1⟩;have hcell:=m1.at_.cell;have M1:=Hh m1;clear m1)
 |(go_at_call 57;refine(hw _ M1.out.at_).mono ?_;rintro e w2 ⟨rfl,b2⟩;have M2:=Hh (M1.out.next b2);clear b2)
 |(go_at_call 56;refine(xNote _ q c r K L _ v M2.out.at_).mono ?_;rintro e w3 ⟨rfl,m3⟩;have M3:=Hh (M2.out.then m3);clear m3))
  go_ret;exact⟨rfl,M3.out⟩
 ·rw[if_neg h0]
  have q0:((k:Int) == 0)=false:=by rw[beq_eq_false_iff_ne];omega
  clear h0;go_enter Tryz.func186,Tryz.ntmps186;go_wp2_with(go_at_call 108;refine hf.mono ?_;rintro e w1 ⟨rfl,m1⟩;have M1:=Hh m1;clear m1)
  go_ret;exact⟨rfl,M1.out⟩
theorem xoneB(W:World)(q c r K G:Nat)(L:List TokV)(st:St)(ws:List ByteArray)(n m:Nat)(cs:Array Value)(hcs:cs=(ws.map Value.string).toArray)(hG:G=W.heap.size)(h:PAt W q c r K L st)(hn:n=ws.length)(hl:n≤64) :
  Calls Φ 186 #[Ω (some ⟨q,0,none⟩),Λ (some ⟨G,0,none⟩) n m] (W.alloc (.cells cs 9)) fun e w'=>e=η (I J (Zk L ws st))∧Xw W w' q c r K L (Zn L ws st):=by
 subst hcs hG;have M1:=(Xw.start h).next (Zh W (.cells (ws.map Value.string).toArray 9));have hq:=h.whole.inside;refine(xone _ q c r K L st ws W.heap.size n m M1.at_ (Zi.made _ _ _) (by omega) (by have:=h.cin;omega) hn hl).mono ?_;rintro e w' ⟨h1,h2⟩;exact⟨h1,M1.then h2⟩
theorem xfindB(W:World)(q c r K G:Nat)(L:List TokV)(st:St)(ws:List ByteArray)(n m:Nat)(cs:Array Value)(hcs:cs=(ws.map Value.string).toArray)(hG:G=W.heap.size)(h:PAt W q c r K L st)(hn:n=ws.length)(hl:n≤64) :
  Calls Φ 108 #[Ω (some ⟨q,0,none⟩),Λ (some ⟨G,0,none⟩) n m] (W.alloc (.cells cs 9)) fun e w'=>e=η (I J (Zk L ws st))∧Xw W w' q c r K L (Ye L ws st):=by
 subst hcs hG;have M1:=(Xw.start h).next (Zh W (.cells (ws.map Value.string).toArray 9));have hq:=h.whole.inside;refine(xfind _ q c r K L st ws W.heap.size n m M1.at_ (Zi.made _ _ _) (by omega) (by have:=h.cin;omega) hn hl).mono ?_;rintro e w' ⟨h1,h2⟩;exact⟨h1,M1.then h2⟩
def nameF(L:List TokV):St→Int×Nat×Nat
 |.ok a _=>Wd L a 3
 |.bad _=>Zch
def nameM(L:List TokV):St→St
 |.ok a d=>.ok (Up L a 3) d
 |.bad F=>.bad F
def sigF(L:List TokV):St→Int×Nat×Nat
 |.ok a _=>Zbf L a
 |.bad _=>Zch
def sigM(L:List TokV):St→St
 |.ok a d=>.ok (Zfj L a) d
 |.bad F=>.bad F
theorem name_note(L:List TokV)(st:St):Ji (nameF L st) (nameM L st)=Wp L st:=by cases st<;>rfl
theorem sig_note(L:List TokV)(st:St):Ji (sigF L st) (sigM L st)=Zbe L st:=by cases st<;>rfl
theorem xName(w:World)(q c r K:Nat)(L:List TokV)(st:St)(h:PAt w q c r K L st) :
  Calls Φ 81 #[Zdi c st] w (Ue w q c r K L (nameM L st) (.tuple #[Ψ (Zct L st),Zr (nameF L st)])):=by
 cases st with
 |ok a d=>exact(cName w c r K L a d (h.cur a d rfl).2.2).mono fun e w' p=>⟨p.1,h.step p.2⟩
 |bad F=>exact(nName w).mono fun e w' p=>⟨p.1,(Xw.start h).next p.2⟩
theorem xSigned(w:World)(q c r K:Nat)(L:List TokV)(st:St)(h:PAt w q c r K L st) :
  Calls Φ 85 #[Zdi c st] w (Ue w q c r K L (sigM L st) (.tuple #[I J (Zeh L st),Zr (sigF L st)])):=by
 cases st with
 |ok a d=>exact(cSigned w c r K L a d (h.cur a d rfl).2.2).mono fun e w' p=>⟨p.1,h.step p.2⟩
 |bad F=>exact(nSigned w).mono fun e w' p=>⟨p.1,(Xw.start h).next p.2⟩
theorem xreadName(w:World)(q c r K:Nat)(L:List TokV)(st:St)(h:PAt w q c r K L st) :
  Calls Φ 80 #[Ω (some ⟨q,0,none⟩),.func (.func 81) #[Zdi c st] #[]] w (Ue w q c r K L (Wp L st) (Ψ (Zct L st))):=by
 have H:=Hh h;rw[←name_note];have hi:=xName w q c r K L st h;generalize nameF L st=F at *;obtain⟨f0,f1,f2⟩:=F;have qin:=h.whole.inside;have cin:=h.cin;have rin:=h.rin;clear h;unfold Zr at hi;go_enter Tryz.func80,Tryz.ntmps80;go_wp2_with(first
 |(go_at_call 81;refine hi.mono ?_;rintro e w1 ⟨rfl,m1⟩;have M1:=Hh (m1.next (Zh w1 (.cells #[I J f0,I J (f1:Int),I J (f2:Int)] 29)));clear m1)
 |(go_at_call 56;refine(xNote _ q c r K L _ (f0,f1,f2) M1.out.at_).mono ?_;rintro e w2 ⟨rfl,m2⟩;have M2:=Hh (M1.out.then m2);clear m2))
 go_ret;exact⟨rfl,M2.out⟩
theorem xreadSigned(w:World)(q c r K:Nat)(L:List TokV)(st:St)(h:PAt w q c r K L st) :
  Calls Φ 83 #[Ω (some ⟨q,0,none⟩),.func (.func 85) #[Zdi c st] #[]] w (Ue w q c r K L (Zbe L st) (I J (Zeh L st))):=by
 have H:=Hh h;rw[←sig_note];have hi:=xSigned w q c r K L st h;generalize sigF L st=F at *;obtain⟨f0,f1,f2⟩:=F;have qin:=h.whole.inside;have cin:=h.cin;have rin:=h.rin;clear h;unfold Zr at hi;go_enter Tryz.func83,Tryz.ntmps83;go_wp2_with(first
 |(go_at_call 85;refine hi.mono ?_;rintro e w1 ⟨rfl,m1⟩;have M1:=Hh (m1.next (Zh w1 (.cells #[I J f0,I J (f1:Int),I J (f2:Int)] 29)));clear m1)
 |(go_at_call 56;refine(xNote _ q c r K L _ (f0,f1,f2) M1.out.at_).mono ?_;rintro e w2 ⟨rfl,m2⟩;have M2:=Hh (M1.out.then m2);clear m2))
 go_ret;exact⟨rfl,M2.out⟩
theorem deep_note(L:List TokV)(t:ByteArray)(st:St)(h:isS L t st=true):Ji (downV L st) (Zpa st)=Zjc L t st:=by
 cases st with
 |ok a d=>exact(if_pos h).symm
 |bad F=>cases h
theorem deep_not(L:List TokV)(t:ByteArray)(st:St)(h:isS L t st=false):Zjc L t st=st:=by
 cases st with
 |ok a d=>exact if_neg (by rw[show isT (Yb L a) t=false from h];decide)
 |bad F=>rfl
theorem xside(w:World)(q c r K:Nat)(L:List TokV)(st:St)(h:PAt w q c r K L st) :
  Calls Φ 187 #[Ω (some ⟨q,0,none⟩)] w (Ue w q c r K L (Zn L Zq st) (I J (Zk L Zq st))):=by
 have qin:=h.whole.inside;have hf:=xoneB w q c r K _ L st Zq 3 3 _ rfl rfl h rfl (by decide);clear h;go_enter Tryz.func187,Tryz.ntmps187;go_wp2_with(go_at_call 186;refine hf.mono ?_;rintro e w1 ⟨rfl,m1⟩;have M1:=Hh m1;clear m1)
 go_ret;exact⟨rfl,M1.out⟩
theorem row_to:(Tryz.prog.underlying 78).map TypeDesc.isRow=some true:=by kernel_rfl
theorem Zdc:(Tryz.prog.info? 78).map (·.size)=some 2:=by kernel_rfl
theorem Yw:(Tryz.prog.info? 3).map (·.size)=some 1:=by kernel_rfl
theorem Xw.put{w x y:World}{q c r K:Nat}{L:List TokV}{st:St}(m:Xw w x q c r K L st){G:Nat}{t:TypeId}{vs:List Value}(p:Put x y G t vs)(hG:w.heap.size≤G)(hq:q<w.heap.size)(hc:c<w.heap.size)(hr:r<w.heap.size):Xw w y q c r K L st:=m.on p.keeps hG hq hc hr
end Go.Proofs.YtbdecchpleiepaaGreat
