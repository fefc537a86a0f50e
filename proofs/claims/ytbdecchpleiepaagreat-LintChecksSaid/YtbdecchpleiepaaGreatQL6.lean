/- Parts of the proof. No conditions but those that each names. -/
import Derived.Test.YtbdecchpleiepaaGreatQL5
set_option maxRecDepth 20000
set_option maxHeartbeats 99000000
set_option linter.unusedVariables false
set_option linter.unusedSimpArgs false
namespace Go.Proofs.YtbdecchpleiepaaGreat
open Go.Value renaming int→I,string→Ψ
open Go.IntKind renaming i64→J
open _root_.Go.Proofs.Tryz renaming prog→Φ
open Go.Ending renaming returned→η
open Go.ChangeShapes Go.WideShapes Go.ChangeAt Go.RowKit
theorem notSm{c:Int}(h:¬(97≤c∧c≤122)):Zaq c=false:=by rw[←Bool.not_eq_true,Zel];exact h
theorem notD{c:Int}(h:¬(48≤c∧c≤57)):isD c=false:=by rw[←Bool.not_eq_true,Zbs];exact h
theorem slice_ab{P:Program}(t:TypeId)(h:P.underlying t=some .string)(s:ByteArray)(a E:Nat)(h1:a+1≤E)(hz:E≤s.size)(w:World) :
  (Instr.slice t (Ψ s) (some (I J ((a:Int)+1))) (some (I J (E:Int))) none).run P w=.ok (Ψ (s.extract (a+1) E)) w:=by
 rw[run_slice_string w t s .i64 .i64 _ _ h (by omega) (by omega) (by omega)];rw[show((a:Int)+1).toNat=a+1 from by omega,Int.toNat_natCast]
theorem rtok_rem(s:ByteArray)(a:Nat)(w:World)(hs:s.size≤1099511627776)(ha:a<s.size)(hd:gB s a=35) :
  Calls Φ 88 #[Ψ s,I J (a:Int)] w fun e w'=>e=η (Zdp (Yh (Zl s a)) a)∧Below w.heap.size w w':=by
 have hk:Yh (Zl s a)=(-1,0,tw (Xh 10) (Zl s a),tw (Xh 10) (Zl s a)):=by
  rw[Yz s ha,hd];rw[Ja,if_neg (by decide),if_neg (by decide),if_pos (show((35:Nat):Int)=35 from rfl)]
 have hv:Zdp (Yh (Zl s a)) a=.tuple #[I J (-1),I J (a:Int),I J ((a+tw (Xh 10) (Zl s a):Nat):Int),I J ((a+tw (Xh 10) (Zl s a):Nat):Int)]:=by
  rw[hk];rfl
 have HV:=Hh hv;have g:=Ug s a ha;have c0:=fun w=>Zjj ((s[a]'ha).toNat:Int) w
 have c2:=fun w=>Zfy ((s[a]'ha).toNat:Int) w
 have c3:=fun w=>rtUntil s a 10 w (by omega) (by omega)
 rw[notSm (by omega)]at c0;rw[notD (by omega)]at c2;have q1:(((s[a]'ha).toNat:Int) == 35)=true:=by rw[←g,hd];rfl
 have l0:decide (s.size≤a)=false:=by simp;omega
 generalize a+tw (Xh 10) (Zl s a)=G at *;clear hv hk hd g;go_enter Tryz.func88,Tryz.ntmps88;go_wp2_with(first
 |(go_at_call 111;refine(c0 _).mono ?_;rintro e w1 ⟨rfl,rfl⟩)
 |(go_at_call 112;refine(c2 _).mono ?_;rintro e w1 ⟨rfl,rfl⟩)
 |(go_at_call 113;refine(c3 _).mono ?_;rintro e w1 ⟨rfl,rfl⟩))
 refine bodyPost_ret (v:=.tuple #[I J (-1),I J (a:Int),I J (G:Int),I J (G:Int)]) (by simp[results,Tryz.results88,go_sem]) rfl ⟨by rw[HV.out],Below.refl _ _⟩
theorem rtok_mark(s:ByteArray)(a:Nat)(w:World)(hs:s.size≤1099511627776)(ha:a<s.size)(h1:Zaq (gB s a)=false)(h2:isD (gB s a)=false)(h3:gB s a≠35)(h4:gB s a≠34) :
  Calls Φ 88 #[Ψ s,I J (a:Int)] w fun e w'=>e=η (Zdp (Yh (Zl s a)) a)∧Below w.heap.size w w':=by
 have hk:Yh (Zl s a)=if Jx (Zl s a)=0 then(-4,0,0,0)else(4,0,Jx (Zl s a),Jx (Zl s a)):=by
  conv=>lhs;rw[Yz s ha]
  rw[Ja,if_neg (by rw[h1];simp),if_neg (by rw[h2];simp),if_neg (by omega),if_neg (by omega),←Yz s ha]
 have hle:=markL_le (Zl s a);rw[Xo]at hle;have g:=Ug s a ha;have c0:=fun w=>Zjj ((s[a]'ha).toNat:Int) w
 have c2:=fun w=>Zfy ((s[a]'ha).toNat:Int) w
 have c3:=fun w=>rtMark s a w (by omega) ha
 rw[←g,h1]at c0;rw[←g,h2]at c2;rw[g]at c0 c2;have q1:(((s[a]'ha).toNat:Int) == 35)=false:=by rw[←g];simp;omega
 have q2:(((s[a]'ha).toNat:Int) == 34)=false:=by rw[←g];simp;omega
 have l0:decide (s.size≤a)=false:=by simp;omega
 generalize Jx (Zl s a)=n at *;clear h1 h2 h3 h4 g;by_cases h0:n=0
 ·have hv:Zdp (Yh (Zl s a)) a=.tuple #[I J (-4),I J 0,I J 0,I J 0]:=by rw[hk,if_pos h0];rfl
  have HV:=Hh hv;have hz:((n:Int) == 0)=true:=by rw[h0];rfl
  clear hv hk h0;go_enter Tryz.func88,Tryz.ntmps88;go_wp2_with(first
 |(go_at_call 111;refine(c0 _).mono ?_;rintro e w1 ⟨rfl,rfl⟩)
 |(go_at_call 112;refine(c2 _).mono ?_;rintro e w1 ⟨rfl,rfl⟩)
 |(go_at_call 115;refine(c3 _).mono ?_;rintro e w1 ⟨rfl,b1⟩))
  refine bodyPost_ret (v:=.tuple #[I J (-4),I J 0,I J 0,I J 0]) (by simp[results,Tryz.results88,go_sem]) rfl ⟨by rw[HV.out],b1⟩
 ·have hv:Zdp (Yh (Zl s a)) a=.tuple #[I J 4,I J (a:Int),I J ((a:Int)+(n:Int)),I J ((a:Int)+(n:Int))]:=by rw[hk,if_neg h0];rfl
  have HV:=Hh hv;have hz:((n:Int) == 0)=false:=by simpa using h0
  clear hv hk h0;go_enter Tryz.func88,Tryz.ntmps88;go_wp2_with(first
 |(go_at_call 111;refine(c0 _).mono ?_;rintro e w1 ⟨rfl,rfl⟩)
 |(go_at_call 112;refine(c2 _).mono ?_;rintro e w1 ⟨rfl,rfl⟩)
 |(go_at_call 115;refine(c3 _).mono ?_;rintro e w1 ⟨rfl,b1⟩))
  refine bodyPost_ret (v:=.tuple #[I J 4,I J (a:Int),I J ((a:Int)+(n:Int)),I J ((a:Int)+(n:Int))]) (by simp[results,Tryz.results88,go_sem]) rfl ⟨by rw[HV.out],b1⟩
theorem rtok_name(s:ByteArray)(a:Nat)(w:World)(hs:s.size≤1099511627776)(ha:a<s.size)(hd:gB s a=34) :
  Calls Φ 88 #[Ψ s,I J (a:Int)] w fun e w'=>e=η (Zdp (Yh (Zl s a)) a)∧Below w.heap.size w w':=by
 have hk:Yh (Zl s a)=if tw (Xh 34) (Zl s (a+1))=(Zl s (a+1)).length∨Zce (strOfNums ((Zl s (a+1)).take (tw (Xh 34) (Zl s (a+1)))))=false then(-3,0,0,0)else(3,1,tw (Xh 34) (Zl s (a+1))+1,tw (Xh 34) (Zl s (a+1))+2):=by
  conv=>lhs;rw[Yz s ha,hd]
  rw[Ja,if_neg (by decide),if_neg (by decide),if_neg (by decide),if_pos (show((34:Nat):Int)=34 from rfl)]
 have g:=Ug s a ha;have c0:=fun w=>Zjj ((s[a]'ha).toNat:Int) w
 have c2:=fun w=>Zfy ((s[a]'ha).toNat:Int) w
 have c3:∀ w:World,Calls Φ 113 #[Ψ s,I J ((a:Int)+1),.int .u8 34] w fun e w'=>e=η (I J ((a+1+tw (Xh 34) (Zl s (a+1)):Nat):Int))∧w=w':=fun w=>rtUntil s (a+1) 34 w (by omega) (by omega)
 rw[notSm (by omega)]at c0;rw[notD (by omega)]at c2;have q1:(((s[a]'ha).toNat:Int) == 35)=false:=by rw[←g,hd];rfl
 have q2:(((s[a]'ha).toNat:Int) == 34)=true:=by rw[←g,hd];rfl
 have l0:decide (s.size≤a)=false:=by simp;omega
 have hle:=Zhw (Xh 34) (Zl s (a+1));rw[Xo]at hle hk;have hst:=Zgd s (a+1) (tw (Xh 34) (Zl s (a+1))) (by omega);have hst':s.extract (a+1) (a+1+tw (Xh 34) (Zl s (a+1)))=strOfNums ((Zl s (a+1)).take (tw (Xh 34) (Zl s (a+1)))):=hst;clear hst;rw[←hst']at hk;clear hst';generalize tw (Xh 34) (Zl s (a+1))=n at *;clear hd g;obtain⟨E,hE⟩:∃ E,a+1+n=E:=⟨_,rfl⟩
 rw[hE]at hk c3;have hsl:=fun w=>slice_ab (P:=Φ) 9 (by kernel_rfl) s a E (by omega) (by omega) w
 have e1:a+1≤E:=by omega
 have e2:E≤s.size:=by omega
 have HE:=Hh hE;have he':n=s.size - (a+1)↔E=s.size:=by omega
 have HX:=Hh he';clear hE he' hle;by_cases he:E=s.size
 ·have hv:Zdp (Yh (Zl s a)) a=.tuple #[I J (-3),I J 0,I J 0,I J 0]:=by rw[hk,if_pos (Or.inl (HX.out.2 he))];rfl
  have HV:=Hh hv;have hz:((E:Int) == (s.size:Int))=true:=by simp;omega
  clear hv hk he;go_enter Tryz.func88,Tryz.ntmps88;go_wp2_with(first
 |(go_at_call 111;refine(c0 _).mono ?_;rintro e w1 ⟨rfl,rfl⟩)
 |(go_at_call 112;refine(c2 _).mono ?_;rintro e w1 ⟨rfl,rfl⟩)
 |(go_at_call 113;refine(c3 _).mono ?_;rintro e w1 ⟨rfl,rfl⟩))
  refine bodyPost_ret (v:=.tuple #[I J (-3),I J 0,I J 0,I J 0]) (by simp[results,Tryz.results88,go_sem]) rfl ⟨by rw[HV.out],Below.refl _ _⟩
 ·have hz:((E:Int) == (s.size:Int))=false:=by simp;omega
  have c4:=fun w=>rName_any (s.extract (a+1) E) w (by rw[size_extract _ _ _ (by omega)];omega)
  cases hnm:Zce (s.extract (a+1) E)with
  |false=>
    rw[hnm]at c4;have hv:Zdp (Yh (Zl s a)) a=.tuple #[I J (-3),I J 0,I J 0,I J 0]:=by rw[hk,if_pos (Or.inr hnm)];rfl
    have HV:=Hh hv;clear hv hk he hnm;go_enter Tryz.func88,Tryz.ntmps88;go_wp2_with(first
 |(go_at_call 111;refine(c0 _).mono ?_;rintro e w1 ⟨rfl,rfl⟩)
 |(go_at_call 112;refine(c2 _).mono ?_;rintro e w1 ⟨rfl,rfl⟩)
 |(go_at_call 113;refine(c3 _).mono ?_;rintro e w1 ⟨rfl,rfl⟩)
 |(go_at_call 114;refine(c4 _).mono ?_;rintro e w1 ⟨rfl,b1⟩))
    refine bodyPost_ret (v:=.tuple #[I J (-3),I J 0,I J 0,I J 0]) (by simp[results,Tryz.results88,go_sem]) rfl ⟨by rw[HV.out],b1⟩
  |true=>
    rw[hnm]at c4
    have hv:Zdp (Yh (Zl s a)) a=.tuple #[I J 3,I J ((a:Int)+1),I J (E:Int),I J ((E:Int)+1)]:=by
     rw[hk,if_neg (by rw[hnm];have:=HX.out;simp;omega)];show Value.tuple #[I J 3,I J ((a+1:Nat):Int),I J ((a+(n+1):Nat):Int),I J ((a+(n+2):Nat):Int)]=_;have:=HE.out;rw[show a+(n+1)=E from by omega,show a+(n+2)=E+1 from by omega];rfl
    have HV:=Hh hv;clear hv hk he hnm;go_enter Tryz.func88,Tryz.ntmps88;go_wp2_with(first
 |(go_at_call 111;refine(c0 _).mono ?_;rintro e w1 ⟨rfl,rfl⟩)
 |(go_at_call 112;refine(c2 _).mono ?_;rintro e w1 ⟨rfl,rfl⟩)
 |(go_at_call 113;refine(c3 _).mono ?_;rintro e w1 ⟨rfl,rfl⟩)
 |(go_at_call 114;refine(c4 _).mono ?_;rintro e w1 ⟨rfl,b1⟩))
    refine bodyPost_ret (v:=.tuple #[I J 3,I J ((a:Int)+1),I J (E:Int),I J ((E:Int)+1)]) (by simp[results,Tryz.results88,go_sem]) rfl ⟨by rw[HV.out],b1⟩
theorem rtToken(s:ByteArray)(a:Nat)(w:World)(hs:s.size≤1099511627776)(ha:a<s.size) :
  Calls Φ 88 #[Ψ s,I J (a:Int)] w fun e w'=>e=η (Zdp (Yh (Zl s a)) a)∧Below w.heap.size w w':=by
 cases h1:Zaq (gB s a:Int)with
 |true=>exact rtok_word s a w hs ha h1
 |false=>
  cases h2:isD (gB s a:Int)with
  |true=>exact rtok_num s a w hs ha h2
  |false=>
   by_cases h3:gB s a=35
   ·exact rtok_rem s a w hs ha h3
   ·by_cases h4:gB s a=34
    ·exact rtok_name s a w hs ha h4
    ·exact rtok_mark s a w hs ha h1 h2 h3 h4
end Go.Proofs.YtbdecchpleiepaaGreat
