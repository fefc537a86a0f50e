/-
  No conditions but those that each theorem names.
-/
import Derived.IntWalk
import Derived.Test.YtljdgdphldckhaaGreatQU2
set_option maxRecDepth 20000
set_option maxHeartbeats 12800000
namespace Go.Proofs.YtljdgdphldckhaaGreat
open Go.ChangeShapes Go.WideShapes Go.ChangeAt Go.RowKit
set_option linter.unusedVariables false
set_option linter.unusedSimpArgs false
theorem Vw{a b:Bool}(h:a=b):Ending.returned (.bool a)=.returned (.bool b):=by rw[h]
theorem Zol{k:IntKind}{a b:Int}(h:a=b):Ending.returned (.int k a)=.returned (.int k b):=by rw[h]
theorem Znm(n:Int)(w:World):Calls Tryz.prog 236 #[.int .i32 n] w fun e w'=>e=.returned (.bool (decide (97≤n∧n≤122)))∧w=w':=by
 go_enter Tryz.func236,Tryz.ntmps236;go_wp2
 all_goals
  go_ret;refine⟨Vw ?_,rfl⟩;rw[Bool.eq_iff_iff];simp;try omega
theorem Letter_any(n:Int)(w:World):Calls Tryz.prog 299 #[.int .i32 n] w fun e w'=>e=.returned (.bool (Zha n))∧w=w':=by
 go_enter Tryz.func299,Tryz.ntmps299;go_wp2_with(go_at_call 236;refine(Znm _ _).mono ?_;rintro e w' ⟨rfl,rfl⟩)
 all_goals
  go_ret;refine⟨Vw ?_,rfl⟩;rw[Bool.eq_iff_iff];simp[Zha];try omega
theorem rLetter_any(n:Int)(w:World):Calls Tryz.prog 260 #[.int .i64 n] w fun e w'=>e=.returned (.bool (Zha n))∧w=w':=by
 go_enter Tryz.func260,Tryz.ntmps260;go_wp2
 all_goals
  go_ret;refine⟨Vw ?_,rfl⟩;rw[Bool.eq_iff_iff];simp[Zha];try omega
theorem Digit_any(n:Int)(w:World):Calls Tryz.prog 238 #[.int .i32 n] w fun e w'=>e=.returned (.bool (decide (48≤n∧n≤57)))∧w=w':=by
 go_enter Tryz.func238,Tryz.ntmps238;go_wp2
 all_goals
  go_ret;refine⟨Vw ?_,rfl⟩;rw[Bool.eq_iff_iff];simp;try omega
theorem Blank_any(n:Int)(w:World):Calls Tryz.prog 234 #[.int .i32 n] w fun e w'=>e=.returned (.bool (decide (n=32∨n=9∨n=10)))∧w=w':=by
 go_enter Tryz.func234,Tryz.ntmps234;go_wp2
 all_goals
  go_ret;refine⟨Vw ?_,rfl⟩;rw[Bool.eq_iff_iff];simp;try omega
theorem Zlk(n:Int)(w:World):Calls Tryz.prog 285 #[.int .i32 n] w fun e w'=>e=.returned (.bool (Zbp n))∧w=w':=by
 go_enter Tryz.func285,Tryz.ntmps285;go_wp2_with(first
 |(go_at_call 299;refine(Letter_any _ _).mono ?_;rintro e w' ⟨rfl,rfl⟩)
 |(go_at_call 238;refine(Digit_any _ _).mono ?_;rintro e w' ⟨rfl,rfl⟩))
 all_goals
  go_ret;refine⟨Vw ?_,rfl⟩;rw[Bool.eq_iff_iff];simp_all[Zbp];try omega
theorem Place_any(s:ByteArray)(a:Int)(w:World)(hs:s.size≤140737488355328):Calls Tryz.prog 233 #[.string s,.int .i64 a] w fun e w'=>e=.returned (.tuple #[.int .i64 ((Zs s a).1:Nat),.int .i64 ((Zs s a).2:Nat)])∧Below w.heap.size w w':=by
 go_enter Tryz.func233,Tryz.ntmps233;go_wp2
 go_loopw [4,5] (fun l c w'=>∃(pos:Nat)(p:Nat×Nat),w'=w.iter s pos∧l=.int .i64 (p.1:Nat)∧c=.int .i64 (p.2:Nat)∧Zet a (Zaa s pos) p=Zs s a∧p.1≤pos+1∧p.2≤pos+1∧pos≤s.size) (fun _ _ w'=>s.size - w'.iterPos w.heap.size)
 case atStart=>exact⟨0,(1,1),rfl,rfl,rfl,rfl,by omega,by omega,by omega⟩
 case round=>
  obtain⟨pos,p,rfl,rfl,rfl,hl,h1,h2,h3⟩:=hrel;by_cases hp:pos<s.size
  ·have hnx:∀ ty,(Instr.next (.pointer (some ⟨w.heap.size,0,none⟩)) true ty).run Tryz.prog (w.iter s pos)=_:=fun ty=>run_next_any w s pos ty hp
   have hwd:=Zco s pos hp;rw[Vh s pos hp]at hl;simp only[Zet]at hl;have HL:=Hh hl;clear hl;obtain⟨d1,d2,d3,d4⟩:=hwd;by_cases ha:a≤(pos:Int)
   ·go_wp2
    go_ret2
    have:=HL.out;rw[if_pos ha]at this;rw[←this];exact⟨rfl,(Below.refl _ _).alloc (Nat.le_refl _) _⟩
   ·have HL2:=HL.out
    rw[if_neg ha]at HL2;have ha':¬ a≤(pos:Int):=ha;have HM:=Hh HL2;clear HL2 HL;by_cases hr:(Utf8.decode s pos).1=10
    ·have hb:(((Utf8.decode s pos).1:Int) == 10)=true:=by rw[hr];rfl
     have HR:=Hh hr;clear hr;go_wp2
     go_roundw
     case rel=>
      refine⟨pos+(Utf8.decode s pos).2,Xc p (Utf8.decode s pos).1,rfl,?_,?_,HM.out,?_⟩
      ·simp[Xc,HR.out]
      ·simp[Xc,HR.out]
      ·simp only[Xc,HR.out,if_pos];omega
     case measure=>simp;omega
    ·have hb:(((Utf8.decode s pos).1:Int) == 10)=false:=by simp;omega
     have HR:=Hh hr;clear hr;go_wp2
     go_roundw
     case rel=>
      refine⟨pos+(Utf8.decode s pos).2,Xc p (Utf8.decode s pos).1,rfl,?_,?_,HM.out,?_⟩
      ·simp[Xc,HR.out]
      ·simp[Xc,HR.out]
      ·simp only[Xc,HR.out,if_false];omega
     case measure=>simp;omega
  ·have hnx:∀ ty,(Instr.next (.pointer (some ⟨w.heap.size,0,none⟩)) true ty).run Tryz.prog (w.iter s pos)=_:=fun ty=>run_next_end w s pos ty hp
   rw[Zau s pos (by omega)]at hl;have HL:=Hh hl;clear hl;go_wp2
   go_ret2
   rw[←HL.out];exact⟨rfl,(Below.refl _ _).alloc (Nat.le_refl _) _⟩
theorem At_in(s:ByteArray)(i:Nat)(w:World)(hs:s.size≤140737488355328)(h:i<s.size):Calls Tryz.prog 235 #[.string s,.int .i64 i] w fun e w'=>e=.returned (.tuple #[.int .i32 (Utf8.decode s i).1,.int .i64 (Utf8.decode s i).2])∧Below w.heap.size w w':=by
 have hz:=size_extract s i s.size (Nat.le_refl _);have hd:=Zob s i (by omega) 0 (by omega);have hb:=Zco s i h;rw[Nat.add_zero]at hd;rw[←hd]at hb ⊢;generalize hr:s.extract i s.size=rest at *;have HR:=Hh hr;have HZ:=Hh hz;have h0:0<rest.size:=by omega
 have hnx:∀ ty,(Instr.next (.pointer (some ⟨w.heap.size,0,none⟩)) true ty).run Tryz.prog (w.iter rest 0)=_:=fun ty=>run_next_any w rest 0 ty h0
 rw[Nat.zero_add]at hnx;clear hz hd;have hi:(0:Int)≤(i:Int):=by omega
 have hi':(i:Int)≤(s.size:Int):=by omega
 by_cases hp:(Utf8.decode rest 0).2<rest.size
 ·have hnx2:∀ ty,(Instr.next (.pointer (some ⟨w.heap.size,0,none⟩)) true ty).run Tryz.prog (w.iter rest (Utf8.decode rest 0).2)=_:=fun ty=>run_next_any w rest _ ty hp
  go_enter Tryz.func235,Tryz.ntmps235;go_wp2
  refine wp_loop_rounds 2 ?_;rw[rounds_succ];go_wp2
  rw[rounds_succ];go_wp2
  go_ret2
  exact⟨rfl,(Below.refl _ _).alloc (Nat.le_refl _) _⟩
 ·have hnx2:∀ ty,(Instr.next (.pointer (some ⟨w.heap.size,0,none⟩)) true ty).run Tryz.prog (w.iter rest (Utf8.decode rest 0).2)=_:=fun ty=>run_next_end w rest _ ty hp
  have he:(Utf8.decode rest 0).2=rest.size:=by have:=HZ.out;omega
  have HE:=Hh he;clear he;go_enter Tryz.func235,Tryz.ntmps235;go_wp2
  refine wp_loop_rounds 2 ?_;rw[rounds_succ];go_wp2
  rw[rounds_succ];go_wp2
  go_ret2
  exact⟨by rw[HE.out];rfl,(Below.refl _ _).alloc (Nat.le_refl _) _⟩
theorem Name_any(s:ByteArray)(w:World)(hs:s.size≤140737488355328):Calls Tryz.prog 265 #[.string s] w fun e w'=>e=.returned (.bool (Zct s))∧Below w.heap.size w w':=by
 go_enter Tryz.func265,Tryz.ntmps265;go_wp2
 go_loopw [3] (fun n w'=>∃(pos:Nat)(done:List (Nat×Nat)),w'=w.iter s pos∧n=.int .i64 done.length∧Zfr s pos done∧done.length≤24∧done.all (fun x=>Zbp x.1)=true) (fun _ w'=>s.size - w'.iterPos w.heap.size)
 case atStart=>exact⟨0,[],rfl,rfl,Zfr.zero s,by simp,by simp⟩
 case round=>
  obtain⟨pos,done,rfl,rfl,hu,h24,hall⟩:=hrel;have HU:=Hh hu;have HA:=Hh hall;clear hu hall;by_cases hp:pos<s.size
  ·have hnx:∀ ty,(Instr.next (.pointer (some ⟨w.heap.size,0,none⟩)) true ty).run Tryz.prog (w.iter s pos)=_:=fun ty=>run_next_any w s pos ty hp
   have hwd:=Zco s pos hp;have hl:done.length+1≤(Yo s).length:=by have:=HU.out;rw[(this.next hp).all];simp
   have hlz:=Zan s;obtain⟨d1,d2,d3,d4⟩:=hwd;by_cases h25:24<done.length+1
   ·go_wp2_with(go_at_call 285;refine(Zlk _ _).mono ?_;rintro e w' ⟨rfl,rfl⟩)
    go_ret;refine⟨Vw ?_,(Below.refl _ _).alloc (Nat.le_refl _) _⟩;unfold Zct;simp;omega
   ·cases hin:Zbp ((Utf8.decode s pos).1:Int)with
    |false=>
     go_wp2_with(go_at_call 285;refine(Zlk _ _).mono ?_;rintro e w' ⟨rfl,rfl⟩)
     go_ret;refine⟨Vw ?_,(Below.refl _ _).alloc (Nat.le_refl _) _⟩
     have:(Yo s).all (fun x=>Zbp x.1)=false:=by
      rw[(HU.out.next hp).all];simp[hin]
     unfold Zct;rw[this];simp
    |true=>
     go_wp2_with(go_at_call 285;refine(Zlk _ _).mono ?_;rintro e w' ⟨rfl,rfl⟩)
     go_roundw
     case rel=>exact⟨pos+(Utf8.decode s pos).2,done++[((Utf8.decode s pos).1,pos)],rfl,by simp,HU.out.next hp,by simp;omega,by rw[List.all_append,HA.out];simp[hin]⟩
     case measure=>simp;omega
  ·have hnx:∀ ty,(Instr.next (.pointer (some ⟨w.heap.size,0,none⟩)) true ty).run Tryz.prog (w.iter s pos)=_:=fun ty=>run_next_end w s pos ty hp
   have he:=HU.out.length_end (by omega)
   have hv:Zct s=(decide (1≤done.length) && decide (((Yo s).map (·.1)).head?≠some 32) && decide (((Yo s).map (·.1)).getLast?≠some 32)):=by
    unfold Zct;rw[he,HA.out];simp[h24]
   have HV:=Hh hv;have HE:=Hh he;clear hv he;by_cases hz:0<done.length
   ·have hz2:0<s.size:=by have:=Zan s;rw[HE.out]at this;omega
    have hh:=head_space s hz2;have ht:=last_space s hz2;rw[Uk s 0 hz2]at hh;rw[Uk s (s.size - 1) (by omega)]at ht;have HH:=Hh hh;have HT:=Hh ht;clear hh ht;go_wp2
    all_goals
     go_ret;refine⟨Vw ?_,(Below.refl _ _).alloc (Nat.le_refl _) _⟩;have hh:=HH.out;have ht:=HT.out;rw[HV.out,Bool.eq_iff_iff];simp only[ne_eq,hh,ht];simp;omega
   ·go_wp2
    go_ret;refine⟨Vw ?_,(Below.refl _ _).alloc (Nat.le_refl _) _⟩;rw[HV.out];simp;omega
end Go.Proofs.YtljdgdphldckhaaGreat
