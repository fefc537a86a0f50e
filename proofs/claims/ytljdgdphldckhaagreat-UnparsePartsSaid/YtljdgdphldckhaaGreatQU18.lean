/-
  No conditions but those that each theorem names.
-/
import Derived.Test.YtljdgdphldckhaaGreatQU17
set_option maxRecDepth 20000
set_option maxHeartbeats 12800000
namespace Go.Proofs.YtljdgdphldckhaaGreat
open Go.ChangeShapes Go.WideShapes Go.ChangeAt Go.RowKit
set_option linter.unusedVariables false
set_option linter.unusedSimpArgs false
def Zbm:Int×Nat×Nat:=(1,0,0)
theorem nStands(w:World):Calls Tryz.prog 172 #[.pointer none] w fun e w'=>e=.returned (.bool false)∧w=w':=by
 go_enter Tryz.func172,Tryz.ntmps172;go_wp2
 go_ret;exact⟨rfl,rfl⟩
theorem nPeek(w:World):Calls Tryz.prog 133 #[.pointer none] w fun e w'=>e=.returned (Vu zTok)∧Below w.heap.size w w':=by
 go_enter Tryz.func133,Tryz.ntmps133;go_wp2_with(go_at_call 172;refine(nStands _).mono ?_;rintro e w1 ⟨rfl,rfl⟩)
 refine bodyPost_ret (v:=Vu zTok) (by simp[results,Tryz.results133,go_sem,Vu,zTok]) rfl ⟨rfl,?_⟩;exact Zh _ _
theorem nHere(w:World)(E:Int):Calls Tryz.prog 173 #[.pointer none,.int .i64 E] w fun e w'=>e=.returned (Zq Zbm)∧Below w.heap.size w w':=by
 go_enter Tryz.func173,Tryz.ntmps173;go_wp2
 refine bodyPost_ret (v:=Zq Zbm) (by simp[results,Tryz.results173,go_sem,Zq,Zbm]) rfl ⟨rfl,?_⟩;exact Zh _ _
theorem nIs(w:World)(t:ByteArray):Calls Tryz.prog 174 #[.pointer none,.string t] w fun e w'=>e=.returned (.bool false)∧Below w.heap.size w w':=by
 go_enter Tryz.func174,Tryz.ntmps174;go_wp2_with(go_at_call 133;refine(nPeek _).mono ?_;rintro e w2 ⟨rfl,b2⟩;have B2:=Hh b2;clear b2;simp only[Vu,zTok])
 go_ret;exact⟨rfl,B2.out.alloc B2.out.size _⟩
theorem nTake(w:World)(t:ByteArray):Calls Tryz.prog 136 #[.pointer none,.string t] w fun e w'=>e=.returned (.bool false)∧Below w.heap.size w w':=by
 go_enter Tryz.func136,Tryz.ntmps136;go_wp2_with(go_at_call 174;refine(nIs _ _).mono ?_;rintro e w2 ⟨rfl,b2⟩;have B2:=Hh b2;clear b2)
 go_ret;exact⟨rfl,B2.out⟩
theorem nWrong(w:World):Calls Tryz.prog 135 #[.pointer none] w fun e w'=>e=.returned (Zq Zbm)∧Below w.heap.size w w':=by
 have F:=Hh (Zd.made w 29 #[.int .i64 0,.int .i64 0,.int .i64 0]);have hfd:=fun w=>Zgd 0 0 0 0 ⟨#[]⟩ w
 go_enter Tryz.func135,Tryz.ntmps135;go_wp2_with(first
 |(go_at_call 133;refine(nPeek _).mono ?_;rintro e w2 ⟨rfl,b2⟩;have W2:=Hh (F.out.below b2 (by simp));have B2:=Hh (Ul (Zh _ _) b2);clear b2;simp only[Vu,zTok,Int.ofNat_zero,Int.natCast_zero])
 |(go_at_call 173;refine(nHere _ _).mono ?_;rintro e w3 ⟨rfl,b3⟩;have W3:=Hh (W2.out.below b3 W2.out.inside);obtain⟨k0,k1,k2,f0,f1,f2⟩:=Zz W3.out;have hz:=W3.out.inside;have B3:=Hh (Ul B2.out b3);clear b3;simp only[Zq,Zbm]))
 have hF:=Zz (Zd.set3 W3.out (.int .i64 1) (.int .i64 0) (.int .i64 0));refine bodyPost_ret (v:=Zq Zbm) (by simp[results,Tryz.results135,go_sem,hF,Zq,Zbm]) rfl ⟨rfl,?_⟩;exact Below.set3 B3.out (Nat.le_refl _) _ _ _
theorem nWant(w:World)(t:ByteArray):Calls Tryz.prog 210 #[.pointer none,.string t] w fun e w'=>e=.returned (Zq Zbm)∧Below w.heap.size w w':=by
 have F:=Hh (Zd.made w 29 #[.int .i64 0,.int .i64 0,.int .i64 0]);go_enter Tryz.func210,Tryz.ntmps210;go_wp2_with(first
 |(go_at_call 136;refine(nTake _ _).mono ?_;rintro e w2 ⟨rfl,b2⟩;have W2:=Hh (F.out.below b2 (by simp));have B2:=Hh (Ul (Zh _ _) b2);clear b2)
 |(go_at_call 135;refine(nWrong _).mono ?_;rintro e w3 ⟨rfl,b3⟩;have W3:=Hh (W2.out.below b3 W2.out.inside);obtain⟨k0,k1,k2,f0,f1,f2⟩:=Zz W3.out;have hz:=W3.out.inside;have B3:=Hh (Ul B2.out b3);clear b3;simp only[Zq,Zbm]))
 have hF:=Zz (Zd.set3 W3.out (.int .i64 1) (.int .i64 0) (.int .i64 0));refine bodyPost_ret (v:=Zq Zbm) (by simp[results,Tryz.results210,go_sem,hF,Zq,Zbm]) rfl ⟨rfl,?_⟩;exact Below.set3 B3.out (Nat.le_refl _) _ _ _
theorem nKind(w:World)(k:Int)(hk:0<k):Calls Tryz.prog 209 #[.pointer none,.int .i64 k] w fun e w'=>e=.returned (.tuple #[Vu zTok,Zq Zbm])∧Below w.heap.size w w':=by
 have T0:=Hh (Two.start w 85 #[.int .i64 0,.string ⟨#[]⟩,.int .i64 0,.int .i64 0,.int .i64 0] 29 #[.int .i64 0,.int .i64 0,.int .i64 0]);have hfd:=fun w=>Zgd 0 0 0 0 ⟨#[]⟩ w
 have q0:((0:Int) != k)=true:=by rw[bne_iff_ne];omega
 go_enter Tryz.func209,Tryz.ntmps209;go_wp2_with(first
 |(go_at_call 133;refine(nPeek _).mono ?_;rintro e w2 ⟨rfl,b2⟩;have T2:=Hh (T0.out.next b2);clear b2;simp only[Vu,zTok,Int.ofNat_zero,Int.natCast_zero])
 |(go_at_call 135;refine(nWrong _).mono ?_;rintro e w3 ⟨rfl,b3⟩;have T3:=Hh (T2.out.next b3);obtain⟨k0,k1,k2,k3,k4,f0,f1,f2,f3,f4⟩:=Zaw T3.out.k0;obtain⟨g0,g1,g2,z0,z1,z2⟩:=Zz T3.out.k1;have hz:=T3.out.k1.inside;clear b3;simp only[Zq,Zbm]))
 have hFG:=two_set T3.out.k0 T3.out.k1 (.int .i64 0) (.string ⟨#[]⟩) (.int .i64 0) (.int .i64 0) (.int .i64 0) (.int .i64 1) (.int .i64 0) (.int .i64 0);have hF:=Zbk hFG.1;have hG:=Zz hFG.2;refine bodyPost_ret (v:=.tuple #[Vu zTok,Zq Zbm]) (by simp[results,Tryz.results209,go_sem,hF,hG,Zq,Zbm,zTok,Vu]) rfl ⟨rfl,?_⟩;exact Below.set3 (Below.set5 T3.out.below (Nat.le_refl _) _ _ _ _ _) (Nat.le_succ _) _ _ _
theorem nInt(w:World):Calls Tryz.prog 180 #[.pointer none] w fun e w'=>e=.returned (.tuple #[.int .i64 0,Zq Zbm])∧Below w.heap.size w w':=by
 have F:=Hh (Zd.made w 29 #[.int .i64 0,.int .i64 0,.int .i64 0]);go_enter Tryz.func180,Tryz.ntmps180;go_wp2_with(go_at_call 209;refine(nKind _ _ (by decide)).mono ?_;rintro e w3 ⟨rfl,b3⟩;have W0:=Hh (F.out.below b3 (by simp));obtain⟨g0,g1,g2,z0,z1,z2⟩:=Zz W0.out;have hz:=W0.out.inside;have B3:=Hh (Ul (Zh _ _) b3);clear b3;simp only[Vu,zTok,Zq,Zbm])
 go_region
 all_goals
  go_wp2
  have hF:=Zz ((((Zd.set3 W0.out (.int .i64 1) (.int .i64 0) (.int .i64 0)).alloc (.cells #[.int .i64 0,.string ⟨#[]⟩,.int .i64 0,.int .i64 0,.int .i64 0] 85)).alloc (.cells #[.int .i64 1,.int .i64 0,.int .i64 0] 29)).drew);refine bodyPost_ret (v:=.tuple #[.int .i64 0,Zq Zbm]) (by simp[results,Tryz.results180,go_sem,hF,Zq,Zbm]) rfl ⟨rfl,?_⟩;have hb:=Below.set3 B3.out (Nat.le_refl _) (.int .i64 1) (.int .i64 0) (.int .i64 0);exact Wg ((hb.alloc hb.size _).alloc (by have:=hb.size;simp at this ⊢;omega) _)
theorem nName(w:World):Calls Tryz.prog 177 #[.pointer none] w fun e w'=>e=.returned (.tuple #[.string ⟨#[]⟩,Zq Zbm])∧Below w.heap.size w w':=by
 have F:=Hh (Zd.made w 29 #[.int .i64 0,.int .i64 0,.int .i64 0]);go_enter Tryz.func177,Tryz.ntmps177;go_wp2_with(go_at_call 209;refine(nKind _ _ (by decide)).mono ?_;rintro e w3 ⟨rfl,b3⟩;have W0:=Hh (F.out.below b3 (by simp));obtain⟨g0,g1,g2,z0,z1,z2⟩:=Zz W0.out;have hz:=W0.out.inside;have B3:=Hh (Ul (Zh _ _) b3);clear b3;simp only[Vu,zTok,Zq,Zbm])
 go_region
 all_goals
  go_wp2
  have hF:=Zz ((((Zd.set3 W0.out (.int .i64 1) (.int .i64 0) (.int .i64 0)).alloc (.cells #[.int .i64 0,.string ⟨#[]⟩,.int .i64 0,.int .i64 0,.int .i64 0] 85)).alloc (.cells #[.int .i64 1,.int .i64 0,.int .i64 0] 29)).drew);refine bodyPost_ret (v:=.tuple #[.string ⟨#[]⟩,Zq Zbm]) (by simp[results,Tryz.results177,go_sem,hF,Zq,Zbm]) rfl ⟨rfl,?_⟩;have hb:=Below.set3 B3.out (Nat.le_refl _) (.int .i64 1) (.int .i64 0) (.int .i64 0);exact Wg ((hb.alloc hb.size _).alloc (by have:=hb.size;simp at this ⊢;omega) _)
theorem nSigned(w:World):Calls Tryz.prog 181 #[.pointer none] w fun e w'=>e=.returned (.tuple #[.int .i64 0,Zq Zbm])∧Below w.heap.size w w':=by
 have F:=Hh (Zd.made w 29 #[.int .i64 0,.int .i64 0,.int .i64 0]);go_enter Tryz.func181,Tryz.ntmps181;go_wp2_with(first
 |(go_at_call 174;refine(nIs _ _).mono ?_;rintro e w2 ⟨rfl,b2⟩;have W2:=Hh (F.out.below b2 (by simp));have B2:=Hh (Ul (Zh _ _) b2);clear b2)
 |(go_at_call 180;refine(nInt _).mono ?_;rintro e w3 ⟨rfl,b3⟩;have W0:=Hh (W2.out.below b3 W2.out.inside);obtain⟨g0,g1,g2,z0,z1,z2⟩:=Zz W0.out;have hz:=W0.out.inside;have B3:=Hh (Ul B2.out b3);clear b3;simp only[Zq,Zbm]))
 have hF:=Zz (Zd.set3 W0.out (.int .i64 1) (.int .i64 0) (.int .i64 0));refine bodyPost_ret (v:=.tuple #[.int .i64 0,Zq Zbm]) (by simp[results,Tryz.results181,go_sem,hF,Zq,Zbm]) rfl ⟨rfl,?_⟩;exact Below.set3 B3.out (Nat.le_refl _) _ _ _
theorem nDown(w:World):Calls Tryz.prog 278 #[.pointer none] w fun e w'=>e=.returned (Zq Zbm)∧Below w.heap.size w w':=by
 have F:=Hh (Zd.made w 29 #[.int .i64 0,.int .i64 0,.int .i64 0]);go_enter Tryz.func278,Tryz.ntmps278;go_wp2_with(first
 |(go_at_call 172;refine(nStands _).mono ?_;rintro e w1 ⟨rfl,rfl⟩)
 |(go_at_call 173;refine(nHere _ _).mono ?_;rintro e w3 ⟨rfl,b3⟩;have W3:=Hh (F.out.below b3 (by simp));obtain⟨k0,k1,k2,f0,f1,f2⟩:=Zz W3.out;have hz:=W3.out.inside;have B3:=Hh (Ul (Zh _ _) b3);clear b3;simp only[Zq,Zbm]))
 have hF:=Zz (Zd.set3 W3.out (.int .i64 1) (.int .i64 0) (.int .i64 0));refine bodyPost_ret (v:=Zq Zbm) (by simp[results,Tryz.results278,go_sem,hF,Zq,Zbm]) rfl ⟨rfl,?_⟩;exact Below.set3 B3.out (Nat.le_refl _) _ _ _
theorem nUp(w:World):Calls Tryz.prog 279 #[.pointer none] w fun e w'=>e=.returned (.tuple #[])∧w=w':=by
 go_enter Tryz.func279,Tryz.ntmps279;go_wp2
 go_end0
 exact⟨rfl,rfl⟩
end Go.Proofs.YtljdgdphldckhaaGreat
