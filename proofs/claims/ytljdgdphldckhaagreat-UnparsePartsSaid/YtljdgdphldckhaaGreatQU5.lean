/-
  No conditions but those that each theorem names.
-/
import Derived.Test.YtljdgdphldckhaaGreatQU4
set_option maxRecDepth 20000
set_option maxHeartbeats 12800000
namespace Go.Proofs.YtljdgdphldckhaaGreat
open Go.ChangeShapes Go.WideShapes Go.ChangeAt Go.RowKit
set_option linter.unusedVariables false
set_option linter.unusedSimpArgs false
def MarksPost(w:World)(e:Ending)(w':World):Prop:=∃ g,e=.returned (.slice (some ⟨g,0,none⟩) 14 14)∧w.heap.size≤g∧Zd w' g 9 mkCs.toArray∧Below w.heap.size w w'
theorem mkCs_eq:mkCs.toArray=#[.string ⟨#[123]⟩,.string ⟨#[125]⟩,.string ⟨#[40]⟩,.string ⟨#[41]⟩,.string ⟨#[59]⟩,.string ⟨#[43]⟩,.string ⟨#[45]⟩,.string ⟨#[42]⟩,.string ⟨#[61]⟩,.string ⟨#[60]⟩,.string ⟨#[62]⟩,.string ⟨#[60,61]⟩,.string ⟨#[62,61]⟩,.string ⟨#[33,61]⟩]:=by kernel_rfl
theorem tkMarks(w:World):Calls Tryz.prog 266 #[] w (MarksPost w):=by
 have hE:=Hh mkCs_eq;go_enter Tryz.func266,Tryz.ntmps266;go_wp2
 go_ret;refine⟨w.heap.size,rfl,Nat.le_refl _,?_,(Below.refl _ _).alloc (Nat.le_refl _) _⟩;rw[hE.out];exact Zd.made _ _ _
theorem tkMark(t:ByteArray)(w:World)(hs:t.size≤140737488355328)(h0:0<t.size)(h1:Zba (gB t 0)=false)(h2:isD (gB t 0)=false)(h3:gB t 0≠35)(h4:gB t 0≠34) :
  Calls Tryz.prog 241 #[.string t] w fun e w'=>e=.returned (Ui t)∧Below w.heap.size w w':=by
 have hb:=Zpa t h0
 have hk:Yh (bL t)=if Zaq (bL t)=0 then(-4,0,0,0)else(4,0,Zaq (bL t),Zaq (bL t)):=by
  rw[hb,Jw,if_neg (by rw[h1];simp),if_neg (by rw[h2];simp),if_neg (by omega),if_neg (by omega)]
 have HK:=Hh hk;have hle:=markL_le (bL t);rw[Vm]at hle;have HL:=Hh hle;clear hk hb h1 h2 h3 h4 hle;go_enter Tryz.func241,Tryz.ntmps241;go_wp2_with(go_at_call 266;refine(tkMarks _).mono ?_;rintro e w1 ⟨g,rfl,hg1,hW1,b1⟩)
 go_loop [3,9] (fun n i=>∃ k:Nat,k≤14∧i=.int .i64 (k:Int)∧n=.int .i64 (((mkL.take k).foldl (Vr (bL t)) 0:Nat):Int)) (fun _ i=>14 - (intOf i).toNat)
 case atStart=>exact⟨0,by omega,rfl,rfl⟩
 case round=>
  obtain⟨k,hk,rfl,rfl⟩:=hrel;have hbd:=mk_bd (bL t) k;by_cases hkl:k<14
  ·have hst:=mk_next (bL t) k hkl
   have hce:w1.cell? ⟨g,k,none⟩=some (.string (strOfNums (mkL[k]'hkl))):=by
    rw[hW1.read k];have:=mkCs_at k hkl;rw[←this];simp
   have hby:=mk_by k hkl;have hml:=mk_len k hkl;generalize mkL[k]'hkl=m at *;generalize hn:(mkL.take k).foldl (Vr (bL t)) 0=n at *;have hpre:=HasPrefix_any t (strOfNums m);rw[Zll m hby]at hpre;have hsz:(strOfNums m).size=m.length:=strOfNums_size m;have HST:=Hh hst;have HSZ:=Hh hsz;have HNN:=Hh hn;have HBY:=Hh hby;have hs1:1≤(strOfNums m).size∧(strOfNums m).size≤2:=by omega
   generalize strOfNums m=ms at *;clear hst hsz hn hby hW1;obtain⟨s1,s2⟩:=hs1;have lk:(k:Int)<14:=by omega
   by_cases hlt:(n:Int)<(ms.size:Int)
   ·cases hp:m.isPrefixOf (bL t)with
    |true=>
     rw[hp]at hpre;have hv:Vr (bL t) n m=ms.size:=by unfold Vr;rw[if_pos ⟨by have:=HSZ.out;omega,hp⟩,HSZ.out]
     have HV:=Hh hv;clear hv hp;go_wp2_with(go_at_call 267;refine(hpre _).mono ?_;rintro e w2 ⟨rfl,rfl⟩)
     go_round
     case rel=>exact⟨k+1,by omega,by go_num,by rw[HST.out,HV.out]⟩
     case measure=>simp[intOf];omega
    |false=>
     rw[hp]at hpre;have hv:Vr (bL t) n m=n:=by unfold Vr;rw[if_neg (by rw[hp];simp)]
     have HV:=Hh hv;clear hv hp;go_wp2_with(go_at_call 267;refine(hpre _).mono ?_;rintro e w2 ⟨rfl,rfl⟩)
     go_round
     case rel=>exact⟨k+1,by omega,by go_num,by rw[HST.out,HV.out]⟩
     case measure=>simp[intOf];omega
   ·have hv:Vr (bL t) n m=n:=by unfold Vr;rw[if_neg (by have:=HSZ.out;omega)]
    have HV:=Hh hv;clear hv;go_wp2_with(go_at_call 267;refine(hpre _).mono ?_;rintro e w2 ⟨rfl,rfl⟩)
    go_round
    case rel=>exact⟨k+1,by omega,by go_num,by rw[HST.out,HV.out]⟩
    case measure=>simp[intOf];omega
  ·obtain rfl:k=14:=by omega
   have hfold:(mkL.take 14).foldl (Vr (bL t)) 0=Zaq (bL t):=by rw[←mk_fold];rfl
   rw[hfold];generalize hm:Zaq (bL t)=n at *;have HM:=Hh hm;obtain⟨l1,l2⟩:=HL.out;have hW:Zd w1 w.heap.size 85 #[.int .i64 0,.string ⟨#[]⟩,.int .i64 0,.int .i64 0,.int .i64 0]:=(Zd.made w 85 #[.int .i64 0,.string ⟨#[]⟩,.int .i64 0,.int .i64 0,.int .i64 0]).below b1 (by simp);obtain⟨k0,k1,k2,k3,k4,f0,f1,f2,f3,f4⟩:=Zaw hW;have hB:Below w.heap.size w w1:=((Below.refl _ _).alloc (Nat.le_refl _) _).trans (b1.mono (by simp));have HB:=Hh hB;clear hfold hm hbd hkl hB;by_cases hz:n=0
   ·subst hz
    have hv:Ui t=Vy 0 ⟨#[]⟩ 0 0 6:=by unfold Ui;rw[HK.out,if_pos rfl];rfl
    have HV:=Hh hv;clear hv;go_wp2
    have hF:=Zbk (Zd.set5 hW (.int .i64 0) (.string ⟨#[]⟩) (.int .i64 0) (.int .i64 0) (.int .i64 0));refine bodyPost_ret (v:=Vy 0 ⟨#[]⟩ 0 0 6) (by simp[results,Tryz.results241,go_sem,Vy,hF]) rfl ⟨by rw[HV.out],?_⟩;exact Below.set5 HB.out (Nat.le_refl _) _ _ _ _ _
   ·have hv:Ui t=Vy 4 (t.extract 0 n) 0 n 0:=by unfold Ui;rw[HK.out,if_neg hz];rfl
    have HV:=Hh hv;clear hv;have hz2:((n:Int) == 0)=false:=by simpa using hz
    have l3:(n:Int)≤(t.size:Int):=by omega
    go_wp2
    have hF:=Zbk (Zd.set5 hW (.int .i64 4) (.string (t.extract 0 n)) (.int .i64 0) (.int .i64 0) (.int .i64 0));refine bodyPost_ret (v:=Vy 4 (t.extract 0 n) 0 n 0) (by simp[results,Tryz.results241,go_sem,Vy,hF]) rfl ⟨by rw[HV.out],?_⟩;exact Below.set5 HB.out (Nat.le_refl _) _ _ _ _ _
theorem bL_rest(t:ByteArray)(a:Nat)(h:a≤t.size):bL (t.extract a t.size)=(bL t).drop a:=by
 have e:=Zlm t a (t.size - a) (by omega);rw[show a+(t.size - a)=t.size from by omega]at e;rw[e,List.take_of_length_le (by rw[List.length_drop,Vm];omega)]
theorem Zhc(t:ByteArray)(a n:Nat)(h:a+n≤t.size):t.extract a (a+n)=strOfNums (((bL t).drop a).take n):=by
 rw[←Zlm t a n h,Zgl]
theorem tkName(t:ByteArray)(w:World)(hs:t.size≤140737488355328)(h0:0<t.size)(hd:gB t 0=34) :
  Calls Tryz.prog 240 #[.string t] w fun e w'=>e=.returned (Ui t)∧Below w.heap.size w w':=by
 have hb:=Zpa t h0
 have hk:Yh (bL t)=if tw (Xl 34) ((bL t).drop 1)=((bL t).drop 1).length∨Zct (strOfNums (((bL t).drop 1).take (tw (Xl 34) ((bL t).drop 1))))=false then(-3,0,0,0)else(3,1,tw (Xl 34) ((bL t).drop 1)+1,tw (Xl 34) ((bL t).drop 1)+2):=by
  conv=>lhs;rw[hb]
  rw[Jw,hd,if_neg (by decide),if_neg (by decide),if_neg (by decide),if_pos (show((34:Nat):Int)=34 from rfl)]
 have hr:=bL_rest t 1 h0;have hz:(t.extract 1 t.size).size=t.size - 1:=size_extract t 1 t.size (Nat.le_refl _);have hrl:((bL t).drop 1).length=t.size - 1:=by rw[List.length_drop,Vm]
 have hle:=Ziw (Xl 34) ((bL t).drop 1);have hstr:=fun n h=>Zhc t 1 n h
 have c1:∀ w:World,Calls Tryz.prog 264 #[.string (t.extract 1 t.size),.int .u8 34] w fun e w'=>e=.returned (.int .i64 (if tw (Xl 34) ((bL t).drop 1)=((bL t).drop 1).length then -1 else(tw (Xl 34) ((bL t).drop 1):Int)))∧w=w':=fun w=>by
  have h:=IndexByte_any (t.extract 1 t.size) 34 (by decide) w;rw[hr]at h;exact h
 have hcut:∀ n,1+n≤t.size→(t.extract 1 t.size).extract 0 n=t.extract 1 (1+n):=by
  intro n hn;have:=Zev t 1 (1+n) (by omega) hn;rw[this];congr 1;omega
 obtain⟨n,hn⟩:∃ n,tw (Xl 34) ((bL t).drop 1)=n:=⟨_,rfl⟩
 rw[hn]at hk hle c1;rw[hrl]at hk hle c1;have l1:(1:Int)≤(t.size:Int):=by omega
 by_cases he:n=t.size - 1
 ·rw[if_pos he]at c1
  have hv:Ui t=Vy 0 ⟨#[]⟩ 0 0 10:=by
    have hk':Yh (bL t)=(-3,0,0,0):=by rw[hk,if_pos (Or.inl he)]
    unfold Ui;rw[hk'];rfl
  have HV:=Hh hv;clear hv hk he hn hle hrl hstr hcut hr hb hd;have HZ:=Hh hz;clear hz;go_enter Tryz.func240,Tryz.ntmps240;go_wp2_with(go_at_call 264;refine(c1 _).mono ?_;rintro e w2 ⟨rfl,rfl⟩)
  refine bodyPost_ret (v:=Vy 0 ⟨#[]⟩ 0 0 10) (by simp[results,Tryz.results240,go_sem,Vy]) rfl ⟨by rw[HV.out],?_⟩;exact(Below.refl _ _).alloc (Nat.le_refl _) _
 ·rw[if_neg he]at c1
  have hlt:1+n<t.size:=by omega
  have hx:=hcut n (by omega);have c2:=fun w=>Name_any ((t.extract 1 t.size).extract 0 n) w (by rw[hx,size_extract t 1 (1+n) (by omega)];omega)
  have hx2:=hstr n (by omega);cases hnm:Zct ((t.extract 1 t.size).extract 0 n)with
  |false=>
    rw[hnm]at c2
    have hv:Ui t=Vy 0 ⟨#[]⟩ 0 0 10:=by
     have hk':Yh (bL t)=(-3,0,0,0):=by rw[hk,if_pos (Or.inr (by rw[←hx2,←hx];exact hnm))]
     unfold Ui;rw[hk'];rfl
    have HV:=Hh hv;have HZ:=Hh hz;have l2:(n:Int)≤(t.size:Int) - 1:=by omega
    have l4:n≤(t.extract 1 t.size).size:=by omega
    clear hv hk he hn hle hrl hstr hcut hr hb hd hx hx2 hnm hz;go_enter Tryz.func240,Tryz.ntmps240;go_wp2_with(first
 |(go_at_call 264;refine(c1 _).mono ?_;rintro e w2 ⟨rfl,rfl⟩)
 |(go_at_call 265;refine(c2 _).mono ?_;rintro e w2 ⟨rfl,b2⟩;have hW:=(Zd.made w 85 #[.int .i64 0,.string ⟨#[]⟩,.int .i64 0,.int .i64 0,.int .i64 0]).below b2 (by simp);obtain⟨k0,k1,k2,k3,k4,f0,f1,f2,f3,f4⟩:=Zaw hW;have HW:=Hh hW;have HB:=Hh (Ul ((Below.refl w.heap.size w).alloc (Nat.le_refl _) _) b2);clear hW b2))
    have hF:=Zbk (Zd.set5 HW.out (.int .i64 0) (.string ⟨#[]⟩) (.int .i64 0) (.int .i64 0) (.int .i64 0));refine bodyPost_ret (v:=Vy 0 ⟨#[]⟩ 0 0 10) (by simp[results,Tryz.results240,go_sem,Vy,hF]) rfl ⟨by rw[HV.out],?_⟩;exact Below.set5 HB.out (Nat.le_refl _) _ _ _ _ _
  |true=>
    rw[hnm]at c2
    have hv:Ui t=Vy 3 ((t.extract 1 t.size).extract 0 n) 0 (n+2) 0:=by
     have hk':Yh (bL t)=(3,1,n+1,n+2):=by rw[hk,if_neg (by rw[←hx2,←hx,hnm];simp;omega)]
     unfold Ui;rw[hk',hx];show Vy 3 (t.extract 1 (n+1)) 0 _ 0=_;rw[Nat.add_comm n 1];rfl
    have HV:=Hh hv;have HZ:=Hh hz;have l2:(n:Int)≤(t.size:Int) - 1:=by omega
    have l4:n≤(t.extract 1 t.size).size:=by omega
    clear hv hk he hn hle hrl hstr hcut hr hb hd hx hx2 hnm hz;go_enter Tryz.func240,Tryz.ntmps240;go_wp2_with(first
 |(go_at_call 264;refine(c1 _).mono ?_;rintro e w2 ⟨rfl,rfl⟩)
 |(go_at_call 265;refine(c2 _).mono ?_;rintro e w2 ⟨rfl,b2⟩;have hW:=(Zd.made w 85 #[.int .i64 0,.string ⟨#[]⟩,.int .i64 0,.int .i64 0,.int .i64 0]).below b2 (by simp);obtain⟨k0,k1,k2,k3,k4,f0,f1,f2,f3,f4⟩:=Zaw hW;have HW:=Hh hW;have HB:=Hh (Ul ((Below.refl w.heap.size w).alloc (Nat.le_refl _) _) b2);clear hW b2))
    have hF:=Zbk (Zd.set5 HW.out (.int .i64 3) (.string ((t.extract 1 t.size).extract 0 n)) (.int .i64 0) (.int .i64 0) (.int .i64 0));refine bodyPost_ret (v:=Vy 3 ((t.extract 1 t.size).extract 0 n) 0 (n+2) 0) (by simp[results,Tryz.results240,go_sem,Vy,hF]) rfl ⟨by rw[HV.out],?_⟩;exact Below.set5 HB.out (Nat.le_refl _) _ _ _ _ _
end Go.Proofs.YtljdgdphldckhaaGreat
