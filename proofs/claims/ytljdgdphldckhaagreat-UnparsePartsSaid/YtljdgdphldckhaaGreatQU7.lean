/-
  No conditions but those that each theorem names.
-/
import Derived.RegionTactic
import Derived.ChangeAlike
import Derived.OwnWalk
import Derived.Maps.AppendAt
import Derived.Test.YtljdgdphldckhaaGreatQU6
set_option maxRecDepth 20000
set_option maxHeartbeats 12800000
namespace Go.Proofs.YtljdgdphldckhaaGreat
open Go.ChangeShapes Go.WideShapes Go.ChangeAt Go.RowKit
set_option linter.unusedVariables false
set_option linter.unusedSimpArgs false
theorem Zjf:Tryz.prog.underlying 78=some (.slice 85):=by kernel_rfl
theorem Zjx:(Tryz.prog.info? 85).map (fun i=>(i.zero,i.size,i.bytes))=some (some (.agg #[.int .i64 0,.string ⟨#[]⟩,.int .i64 0,.int .i64 0,.int .i64 0]),5,48):=by kernel_rfl
theorem Zdt{P:Program}{w Y:World}{ops:Array Oper}{rest:List Oper}{o:Oper}{a:Act}{Q:Exit→Act→World→Prop}(s x:Operand)(t e:TypeId)(bytes:Nat)(z:Value)
  (ht:P.underlying t=some (.slice e))(hinfo:(P.info? e).map (fun i=>(i.zero,i.size,i.bytes))=some (some z,5,bytes))(hzs:z.cells.size=5)(hby:bytes≤64)
  (hgd:o.guard=none)(ho:o.op=.call { callee:=.builtin .append,args:=#[s,x],argTypes:=#[t,t] })
  (base:Nat)(v:Value)(n:Nat)(xs:List Value)(c0 c1 c2 c3 c4:Value)(hs:a.eval s=v)(hown:w.ownsRow base e 5 v n xs)(g:Nat)(hgz:g=w.heap.size)(hx:a.eval x=.slice (some ⟨g,0,none⟩) 1 1)(h1:∀ u ∈ [c0,c1,c2,c3,c4],u.oneCell'=true)
  (hn:n≤1099511627776)(hbase:base≤w.heap.size)(l:Zkf Y w (.cells #[c0,c1,c2,c3,c4] e))
  (h:∀ v' w',w'.ownsRow base e 5 v' (n+1) (xs++[c0,c1,c2,c3,c4])→w.grownBy w' v.ownBlock→(v'.ownBlock=v.ownBlock∨v'.ownBlock=some (w.heap.size+1))→wpList P ops Q rest (a.put o.dst v') w') :
  wpList P ops Q (o::rest) a Y:=by
 subst hgz;obtain⟨i,hi,hz,hsize,hbytes⟩:=info_parts hinfo;have hwl:Zd Y w.heap.size e #[c0,c1,c2,c3,c4]:=by unfold Zd;rw[l.heap];exact Zd.made w e _
 refine wpList_append_own_at Y hgd s x t ho base e i z 5 bytes ht hi hz hsize hbytes hzs (by decide) v n xs hs (l.own hown) ⟨w.heap.size,0,none⟩ 1 1 [c0,c1,c2,c3,c4] hx rfl ?_ h1 (by unfold maxLen;omega) ?_ (by rw[l.size];omega) ?_
 ·intro j u hj
  have hr:=hwl.read j;have ha:(⟨w.heap.size,0,none⟩:Addr).add j=⟨w.heap.size,j,none⟩:=by simp[Addr.add];omega
  rw[ha,hr,←hj];simp
 ·have:(n+1)*bytes≤(n+1)*64:=Nat.mul_le_mul_left _ hby
  omega
 ·intro v' w' ho' hg _ hat
  refine h v' w' ho' (l.grown hg) ?_;rcases hat with e | e
  ·exact .inl e
  ·refine .inr (by rw[l.size]at e;exact e)
def Jy(L:List TokV):List Value:=L.flatMap TokV.cells
theorem tokCs_snoc(L:List TokV)(v:TokV):Jy (L++[v])=Jy L++v.cells:=by unfold Jy;simp
theorem Zkj(L:List TokV):(Jy L).length=L.length*5:=by
 induction L with
 |nil=>rfl
 |cons v L ih=>
  have:Jy (v::L)=v.cells++Jy L:=rfl;rw[this,List.length_append,ih,List.length_cons];have:v.cells.length=5:=rfl;omega
def Zcj(s:ByteArray):List TokV×Int×Nat×Nat:=
 if 65536<s.size then([],3,1,1)
 else if(Js s 0 []).2.1=0 then((Js s 0 []).1,0,0,0)else([],(Js s 0 []).2.1,(Zs s ((Js s 0 []).2.2:Nat)).1,(Zs s ((Js s 0 []).2.2:Nat)).2)
def Zq(x:Int×Nat×Nat):Value:=.agg #[.int .i64 x.1,.int .i64 (x.2.1:Int),.int .i64 (x.2.2:Int)]
def ScanPost(s:ByteArray)(w:World)(e:Ending)(w':World):Prop:=
 ∃ v,e=.returned (.tuple #[v,Zq (Zcj s).2])∧w'.ownsRow w.heap.size 85 5 v (Zcj s).1.length (Jy (Zcj s).1)∧Below w.heap.size w w'
structure ScW(s:ByteArray)(w:World)(a:Nat)(acc:List TokV)(v:Value)(wr:World):Prop where
 two:Two w 29 #[.int .i64 0,.int .i64 0,.int .i64 0] 260 #[.string (s.extract a s.size),.int .i64 ((Zs s (a:Int)).1:Nat),.int .i64 ((Zs s (a:Int)).2:Nat)] wr
 row:wr.ownsRow (w.heap.size+2) 85 5 v acc.length (Jy acc)
theorem ScW.lo{s:ByteArray}{w wr:World}{a:Nat}{acc:List TokV}{v:Value}(h:ScW s w a acc v wr):w.heap.size+2≤wr.heap.size:=h.two.k1.inside
theorem ScW.next{s:ByteArray}{w wr w':World}{a:Nat}{acc:List TokV}{v:Value}(h:ScW s w a acc v wr)(hb:Below wr.heap.size wr w'):ScW s w a acc v w':=
 ⟨h.two.next hb,Jr h.row hb⟩
theorem adv_place(s:ByteArray){a b:Nat}(ha:Bd s a)(hb:Bd s b)(hab:a≤b) :
  adv (Zs s (a:Int)) (Zs ((s.extract a s.size).extract 0 (b - a)) ((b - a:Nat):Int))=Zs s (b:Int):=by
 have e:(s.extract a s.size).extract 0 (b - a)=s.extract a b:=(Zev s a b hab hb.1).symm;rw[e];exact(place_pass ha hb hab).symm
theorem rest_rest(s:ByteArray){a b:Nat}(hab:a≤b)(hb:b≤s.size):(s.extract a s.size).extract (b - a) (s.extract a s.size).size=s.extract b s.size:=by
 rw[size_extract s a s.size (Nat.le_refl _),ByteArray.extract_extract];congr 1<;>omega
theorem ScW.passed{s:ByteArray}{w wr w':World}{a b:Nat}{acc:List TokV}{v:Value}{e:Ending}(h:ScW s w a acc v wr)(ha:Bd s a)(hb:Bd s b)(hab:a≤b)
  (hp:PassPost (w.heap.size+1) (s.extract a s.size) (Zs s (a:Int)) (b - a) wr e w'):ScW s w b acc v w':=by
 obtain⟨_,hW,hk⟩:=hp;rw[adv_place s ha hb hab,rest_rest s hab hb.1]at hW;refine⟨⟨hk.whole h.two.k0 (by omega),hW,h.two.below.trans ?_⟩,hk.owns h.row fun k hkk=>?_⟩
 ·exact hk.below (Nat.le_trans (Nat.le_add_right _ 2) h.lo) (fun k hk=>by omega)
 ·have:=(h.row.lt k hkk).1
  omega
theorem ScW.push{s:ByteArray}{w wr W w':World}{a:Nat}{acc:List TokV}{v v':Value}(h:ScW s w a acc v wr)(hb:Below wr.heap.size wr W)(t:TokV)
  (ho:w'.ownsRow (w.heap.size+2) 85 5 v' (acc.length+1) (Jy acc++t.cells))(hg:W.grownBy w' v.ownBlock):ScW s w a (acc++[t]) v' w':=by
 have hW:=h.next hb;refine⟨⟨Zfk hg hW.two.k0 ?_,Zfk hg hW.two.k1 ?_,?_⟩,?_⟩
 ·intro c
  have:=(hW.row.lt _ c).1;omega
 ·intro c
  have:=(hW.row.lt _ c).1;omega
 ·exact Zir hW.two.below hW.row hg (by omega) (Nat.le_trans (Nat.le_add_right _ 2) hW.lo)
 ·rw[tokCs_snoc,List.length_append]
  exact ho
def lenV:Value→Nat
 |.slice _ n _=>n
 |_=>0
theorem Zgm(s:ByteArray){L:List TokV}{e:Int}{p:Nat}(h64:s.size≤65536)(h:Js s 0 []=(L,e,p)):Zcj s=if e=0 then(L,0,0,0)else([],e,(Zs s (p:Nat)).1,(Zs s (p:Nat)).2):=by
 unfold Zcj;rw[if_neg (by omega),h]
theorem first_at(s:ByteArray){a:Nat}(ha:a≤s.size):Ui (s.extract a s.size) =
  if(Yh (Zl s a)).1 < -1 then Vy 0 ⟨#[]⟩ 0 0 (Zku (Yh (Zl s a)).1)
  else Vy (Yh (Zl s a)).1 (s.extract (a+(Yh (Zl s a)).2.1) (a+(Yh (Zl s a)).2.2.1)) (Zdo (Yh (Zl s a)).1 (Zl s a)) (Yh (Zl s a)).2.2.2 0:=by
 unfold Ui;rw[bL_rest s a ha]
 have hb:(Yh (Zl s a)).2.2.1≤s.size - a:=by
  by_cases hlt:a<s.size
  ·have:=Zid (Zl s a) (Zgo s hlt)
   rw[Xp]at this;omega
  ·rw[Zbg s (by omega)];simp[Yh]
 have e:(s.extract a s.size).extract (Yh (Zl s a)).2.1 (Yh (Zl s a)).2.2.1=s.extract (a+(Yh (Zl s a)).2.1) (a+(Yh (Zl s a)).2.2.1):=by
  rw[ByteArray.extract_extract];congr 1
  omega
 show(if(Yh (Zl s a)).1 < -1 then _ else Vy (Yh (Zl s a)).1 ((s.extract a s.size).extract (Yh (Zl s a)).2.1 (Yh (Zl s a)).2.2.1) _ _ 0)=_;rw[e];rfl
theorem tok_rem(s:ByteArray){a:Nat}(h:a<s.size):(Yh (Zl s a)).1 = -1→gB s a=35:=by
 rw[Xa s h];refine Zag (gB s a) (Zl s (a+1)) (fun x=>x.1 = -1→gB s a=35) ?_ ?_ ?_ ?_ ?_ ?_ ?_ ?_
 ·intro _ hh;simp at hh
 ·intro _ _ _ hh;simp at hh
 ·intro _ _ hh;simp at hh
 ·intro hc _;omega
 ·intro _ _ _ hh;simp at hh
 ·intro _ _ hh;simp at hh
 ·intro _ _ _ _ _ hh;simp at hh
 ·intro _ _ _ _ _ hh;simp at hh
theorem errE_is(k:Int):Zku k=12∨Zku k=10∨Zku k=6:=by
 unfold Zku;split
 ·exact .inl rfl
 ·split
  ·exact .inr (.inl rfl)
  ·exact .inr (.inr rfl)
theorem Zli(s:ByteArray):Zs s ((0:Nat):Int)=(1,1):=by rw[Zer (Zfr.zero s)];rfl
theorem gB_rest(s:ByteArray){a:Nat}(ha:a<s.size):gB (s.extract a s.size) 0=gB s a:=by
 have:=Zgt s a s.size 0 (by omega) (Nat.le_refl _);rwa [Nat.add_zero]at this
theorem rest_zero(s:ByteArray)(a:Nat)(ha:a≤s.size):Zl (s.extract a s.size) 0=Zl s a:=by
 unfold Zl;rw[bL_rest s a ha,List.drop_zero]
theorem tkScan(s:ByteArray)(w:World)(hs:s.size≤140737488355328):Calls Tryz.prog 171 #[.string s] w (ScanPost s w):=by
 by_cases h64:65536<s.size
 ·have hv:Zcj s=([],3,1,1):=by unfold Zcj;rw[if_pos h64]
  have HV:=Hh hv;clear hv;have l1:65536<(s.size:Int):=by omega
  go_enter Tryz.func171,Tryz.ntmps171;go_wp2
  refine bodyPost_ret (v:=.tuple #[.slice none 0 0,.agg #[.int .i64 3,.int .i64 1,.int .i64 1]]) (by simp[results,Tryz.results171,go_sem]) rfl ⟨.slice none 0 0,by rw[HV.out];rfl,by rw[HV.out];exact⟨rfl,.inl ⟨rfl,rfl⟩⟩,?_⟩;exact(Below.refl _ _).alloc (Nat.le_refl _) _
 ·have l1:(s.size:Int)≤65536:=by omega
  go_enter Tryz.func171,Tryz.ntmps171;go_wp2
  go_loopw [4] (fun v wr=>∃(a:Nat)(acc:List TokV),ScW s w a acc v wr∧Bd s a∧acc.length≤a∧Js s a acc=Js s 0 []) (fun v _=>s.size+1 - lenV v)
  case atStart=>
    refine⟨0,[],⟨?_,⟨rfl,.inl ⟨rfl,rfl⟩⟩⟩,Bd.zero s,Nat.le_refl _,rfl⟩;have e:s.extract 0 s.size=s:=by simp
    rw[e,Zli];exact Two.start w _ _ _ _
  case round=>
    obtain⟨a,acc,hst,hbd,hac,hsc⟩:=hrel;obtain⟨A,cp,rfl,hnc,hcm,_⟩:=Wd hst.row;have hle:=gapE_le s hbd.1;obtain⟨hg1,hg2,hg3⟩:=Zow s s.size a (by omega) hbd.1 hbd;have hgv:Zgv s a=a+Zcn (Zl s a) false:=rfl
    have c1:∀ w,Calls Tryz.prog 207 #[.string (s.extract a s.size)] w fun e w'=>e=.returned (.int .i64 ((Zgv s a - a:Nat):Int))∧Below w.heap.size w w':=fun w=>by
     have h:=tkGap (s.extract a s.size) w (by rw[size_extract _ _ _ (Nat.le_refl _)];omega);rw[rest_zero s a hbd.1,show Zcn (Zl s a) false=Zgv s a - a from by omega]at h;exact h
    have hgs:=hg1 acc;rw[hsc]at hgs;generalize Zgv s a=b at *
    have c2:=fun w=>tkFirst (s.extract b s.size) w (by rw[size_extract _ _ _ (Nat.le_refl _)];omega) (fun h=>by
     rw[size_extract _ _ _ (Nat.le_refl _)]at h;rw[gB_rest s (by omega)];exact(hg3 (by omega)).2)
    rw[first_at s hle.2]at c2;have p1:=Zes s (a:Int);have p2:=Zes s (b:Int);obtain⟨hle1,hle2⟩:=hle;obtain⟨p3,p4⟩:=p1;obtain⟨p5,p6⟩:=p2;have k0:wr.cell? ⟨w.heap.size+1,0,none⟩=some (.string (s.extract a s.size)):=hst.two.k1.read 0;have hrz:=size_extract s a s.size (Nat.le_refl _);have HP:=Hh (And.intro hbd (And.intro hg2 (And.intro hg3 hrz)));have HST:=Hh hst;have HGS:=Hh hgs;have HL:=Hh (And.intro hac hnc);clear hst hgs hsc hg1 hgv hbd hg2 hg3 hrz hac hnc;by_cases hend:b=s.size
    ·have hx:s.extract b b=⟨#[]⟩:=by
      apply ByteArray.ext;apply Array.eq_empty_of_size_eq_zero;show(s.extract b b).size=0;rw[size_extract _ _ _ hle2];omega
     have hnil:=Zbg s (show s.size≤b by omega)
     have hv:Zcj s=(acc++[Znj s b],0,0,0):=by
      rw[Zgm s (by omega) (HGS.out.trans (Zms s acc (by omega))),if_pos rfl]
     have htc:(Znj s b).cells=[.int .i64 0,.string ⟨#[]⟩,.int .i64 0,.int .i64 ((Zs s (b:Int)).1:Nat),.int .i64 ((Zs s (b:Int)).2:Nat)]:=rfl
     have c3:∀ w,Calls Tryz.prog 208 #[.string (s.extract b s.size)] w fun e w'=>e=.returned (Vy 0 ⟨#[]⟩ 0 0 0)∧Below w.heap.size w w':=fun w=>by
      have h:=c2 w;rw[hnil]at h;have e:(if(Yh []).1 < -1 then Vy 0 ⟨#[]⟩ 0 0 (Zku (Yh []).1)else Vy (Yh []).1 (s.extract (b+(Yh []).2.1) (b+(Yh []).2.2.1)) (Zdo (Yh []).1 []) (Yh []).2.2.2 0)=Vy 0 (s.extract b b) 0 0 0:=rfl;rw[e,hx]at h;exact h
     simp only[Vy]at c3;have HV:=Hh hv;have HTC:=Hh htc;clear hx hnil hv htc c2 hend;go_wp2_with(first
 |(go_at_call 207;refine(c1 _).mono ?_;rintro e w1 ⟨rfl,b1⟩;have S1:=Hh (HST.out.next b1);clear b1)
 |(go_at_call 206;refine(tkPass (w.heap.size+1) (s.extract a s.size) (Zs s (a:Int)) (b - a) _ (by rw[HP.out.2.2.2];omega) (by rw[HP.out.2.2.2];omega) (by omega) (by omega) S1.out.two.k1).mono ?_;rintro e w2 q2;obtain rfl:=q2.1;have S2:=Hh (S1.out.passed HP.out.1 HP.out.2.1 hle1 q2);have k2:w2.cell? ⟨w.heap.size+1,0,none⟩=some (.string (s.extract b s.size)):=S2.out.two.k1.read 0;clear q2)
 |(go_at_call 208;refine(c3 _).mono ?_;rintro e w3 ⟨rfl,b3⟩;have S3:=Hh (S2.out.next b3);clear b3
   have x1:w3.cell? ⟨w.heap.size+1,1,none⟩=some (.int .i64 ((Zs s (b:Int)).1:Nat)):=S3.out.two.k1.read 1;have x2:w3.cell? ⟨w.heap.size+1,2,none⟩=some (.int .i64 ((Zs s (b:Int)).2:Nat)):=S3.out.two.k1.read 2;have y0:w3.cell? ⟨w.heap.size,0,none⟩=some (.int .i64 0):=S3.out.two.k0.read 0;have y1:w3.cell? ⟨w.heap.size,1,none⟩=some (.int .i64 0):=S3.out.two.k0.read 1;have y2:w3.cell? ⟨w.heap.size,2,none⟩=some (.int .i64 0):=S3.out.two.k0.read 2;have z0:=S3.out.two.k0.thawed 0;have z1:=S3.out.two.k0.thawed 1;have z2:=S3.out.two.k0.thawed 2;have hlo:w.heap.size+1<w3.heap.size:=S3.out.lo
   have hlo0:w.heap.size<w3.heap.size:=Nat.lt_of_succ_lt hlo))
     go_region
     go_wp2_with(first
 |(at_builtin;refine Zdt (w:=w3.alloc (.cells #[.int .i64 0,.string ⟨#[]⟩,.int .i64 0,.int .i64 ((Zs s (b:Int)).1:Nat),.int .i64 ((Zs s (b:Int)).2:Nat)] 85)) (.tmp 40) (.tmp 42) 78 85 48 _ Zjf Zjx (by rfl) (by decide) rfl rfl (w.heap.size+2) (.slice A acc.length cp) acc.length (Jy acc) _ _ _ _ _ rfl (S3.out.row.alloc _) (w3.heap.size+1) (by simp) rfl (by simp[Value.oneCell']) (by have:=HL.out;omega) (by simp;omega) ⟨rfl,rfl,rfl,rfl⟩ ?_
   intro v5 w5 o5 g5 at5;obtain⟨A5,cp5,rfl,_⟩:=Wd o5;have S5:=Hh (S3.out.push ((Below.refl _ _).alloc (Nat.le_refl _) _) (Znj s b) (by rw[HTC.out];exact o5) g5);have T5:=Hh (Zfk g5 (Zd.made w3 85 #[.int .i64 0,.string ⟨#[]⟩,.int .i64 0,.int .i64 ((Zs s (b:Int)).1:Nat),.int .i64 ((Zs s (b:Int)).2:Nat)]) (fun c=>by have:=(S3.out.row.lt _ c).2;omega));have t0:w5.cell? ⟨w3.heap.size,0,none⟩=some (.int .i64 0):=T5.out.read 0;have y0:w5.cell? ⟨w.heap.size,0,none⟩=some (.int .i64 0):=S5.out.two.k0.read 0;have y1:w5.cell? ⟨w.heap.size,1,none⟩=some (.int .i64 0):=S5.out.two.k0.read 1;have y2:w5.cell? ⟨w.heap.size,2,none⟩=some (.int .i64 0):=S5.out.two.k0.read 2;have z0:=S5.out.two.k0.thawed 0;have z1:=S5.out.two.k0.thawed 1;have z2:=S5.out.two.k0.thawed 2
   clear o5 g5 at5))
     have hF:=((S5.out.two.k0.write 0 (.int .i64 0)).write 1 (.int .i64 0)).write 2 (.int .i64 0);have hF3:=Zz hF;have hrow:=own_mono S5.out.row (show w.heap.size≤w.heap.size+2 by omega);rw[List.length_append]at hrow;refine bodyPost_ret (v:=.tuple #[.slice A5 (acc.length+1) cp5,.agg #[.int .i64 0,.int .i64 0,.int .i64 0]]) (by simp[results,Tryz.results171,go_sem,hF3]) rfl ⟨.slice A5 (acc.length+1) cp5,by rw[HV.out];rfl,?_,?_⟩
     ·rw[HV.out]
      have hn:∀ k,(Value.slice A5 (acc.length+1) cp5).ownBlock=some k→k≠w.heap.size:=fun k hk c=>by have:=(S5.out.row.lt k hk).1;omega
      have hn0:(Value.slice A5 (acc.length+1) cp5).ownBlock≠some w.heap.size:=fun c=>hn _ c rfl
      exact Zay (Zay (Zay (by rw[List.length_append];exact hrow) hn0 _) hn0 _) hn0 _
     ·exact((S5.out.two.below.setCell (Nat.le_refl _) _).setCell (Nat.le_refl _) _).setCell (Nat.le_refl _) _
    ·have hbl:=(HP.out.2.2.1 (by omega)).1
     have hkk:(Yh (Zl s b)).1 < -1∨0<(Yh (Zl s b)).1:=by
      have h1:=Zid (Zl s b) (Zgo s (by omega));have h2:=tok_rem s (show b<s.size by omega);have h3:=(HP.out.2.2.1 (by omega)).2;omega
     rcases hkk with hk | hk
     ·simp only[if_pos hk,Vy]at c2
      have hE:Zku (Yh (Zl s b)).1=12∨Zku (Yh (Zl s b)).1=10∨Zku (Yh (Zl s b)).1=6:=errE_is _
      have hv:Zcj s=([],Zku (Yh (Zl s b)).1,(Zs s (b:Nat)).1,(Zs s (b:Nat)).2):=by
       rw[Zgm s (by omega) (HGS.out.trans (Zmr s acc (by omega) hbl hk)),if_neg (by omega)]
      generalize Zku (Yh (Zl s b)).1=E at *;have hE0:(E == 0)=false:=by rw[beq_eq_false_iff_ne];omega
      have hE1:(E != 0)=true:=by simp;omega
      have HV:=Hh hv;clear hk hv hbl;go_wp2_with(first
 |(go_at_call 207;refine(c1 _).mono ?_;rintro e w1 ⟨rfl,b1⟩;have S1:=Hh (HST.out.next b1);clear b1)
 |(go_at_call 206;refine(tkPass (w.heap.size+1) (s.extract a s.size) (Zs s (a:Int)) (b - a) _ (by rw[HP.out.2.2.2];omega) (by rw[HP.out.2.2.2];omega) (by omega) (by omega) S1.out.two.k1).mono ?_;rintro e w2 q2;obtain rfl:=q2.1;have S2:=Hh (S1.out.passed HP.out.1 HP.out.2.1 hle1 q2);have k2:w2.cell? ⟨w.heap.size+1,0,none⟩=some (.string (s.extract b s.size)):=S2.out.two.k1.read 0;clear q2)
 |(go_at_call 208;refine(c2 _).mono ?_;rintro e w3 ⟨rfl,b3⟩;have S3:=Hh (S2.out.next b3);clear b3
   have x1:w3.cell? ⟨w.heap.size+1,1,none⟩=some (.int .i64 ((Zs s (b:Int)).1:Nat)):=S3.out.two.k1.read 1;have x2:w3.cell? ⟨w.heap.size+1,2,none⟩=some (.int .i64 ((Zs s (b:Int)).2:Nat)):=S3.out.two.k1.read 2;have y0:w3.cell? ⟨w.heap.size,0,none⟩=some (.int .i64 0):=S3.out.two.k0.read 0;have y1:w3.cell? ⟨w.heap.size,1,none⟩=some (.int .i64 0):=S3.out.two.k0.read 1;have y2:w3.cell? ⟨w.heap.size,2,none⟩=some (.int .i64 0):=S3.out.two.k0.read 2;have z0:=S3.out.two.k0.thawed 0;have z1:=S3.out.two.k0.thawed 1;have z2:=S3.out.two.k0.thawed 2;have hlo:w.heap.size+1<w3.heap.size:=S3.out.lo
   have hlo0:w.heap.size<w3.heap.size:=Nat.lt_of_succ_lt hlo))
      go_region
      go_wp2
      have hF:=((((S3.out.two.k0.write 0 (.int .i64 E)).write 1 (.int .i64 ((Zs s (b:Int)).1:Nat))).write 2 (.int .i64 ((Zs s (b:Int)).2:Nat))).alloc (.cells #[.int .i64 0,.string ⟨#[]⟩,.int .i64 0,.int .i64 0,.int .i64 0] 85)).drew;have hF3:=Zz hF;refine bodyPost_ret (v:=.tuple #[.slice none 0 0,.agg #[.int .i64 E,.int .i64 ((Zs s (b:Int)).1:Nat),.int .i64 ((Zs s (b:Int)).2:Nat)]]) (by simp[results,Tryz.results171,go_sem,hF3]) rfl ⟨.slice none 0 0,by rw[HV.out];rfl,by rw[HV.out];exact⟨rfl,.inl ⟨rfl,rfl⟩⟩,?_⟩;exact Wg ((((S3.out.two.below.setCell (Nat.le_refl _) _).setCell (Nat.le_refl _) _).setCell (Nat.le_refl _) _).alloc (by simp[World.setCell];omega) _)
     ·have hk1:¬(Yh (Zl s b)).1 < -1:=by omega
      simp only[if_neg hk1,Vy]at c2;have hsc:=HGS.out.trans (Zmp s acc (by omega) hbl hk);have hadv:=Zbs s (show b<s.size by omega) (by omega : -1≤(Yh (Zl s b)).1);have hbd2:=tok_bd s (show b<s.size by omega) hk;have htc:(Zgk s b).cells=[.int .i64 (Yh (Zl s b)).1,.string (s.extract (b+(Yh (Zl s b)).2.1) (b+(Yh (Zl s b)).2.2.1)),.int .i64 (Zdo (Yh (Zl s b)).1 (Zl s b)),.int .i64 ((Zs s (b:Int)).1:Nat),.int .i64 ((Zs s (b:Int)).2:Nat)]:=rfl;generalize s.extract (b+(Yh (Zl s b)).2.1) (b+(Yh (Zl s b)).2.2.1)=X at *;generalize Zdo (Yh (Zl s b)).1 (Zl s b)=N at *;generalize(Yh (Zl s b)).2.2.2=Z at *;generalize(Yh (Zl s b)).1=K at *;have HSC:=Hh (And.intro hsc (And.intro hbd2 htc));obtain⟨hz1,hz2⟩:=hadv;have hK0:(K == 0)=false:=by rw[beq_eq_false_iff_ne];omega
      clear hsc hbd2 htc hbl hk hk1;go_wp2_with(first
 |(go_at_call 207;refine(c1 _).mono ?_;rintro e w1 ⟨rfl,b1⟩;have S1:=Hh (HST.out.next b1);clear b1)
 |(go_at_call 206;refine(tkPass (w.heap.size+1) (s.extract a s.size) (Zs s (a:Int)) (b - a) _ (by rw[HP.out.2.2.2];omega) (by rw[HP.out.2.2.2];omega) (by omega) (by omega) S1.out.two.k1).mono ?_;rintro e w2 q2;obtain rfl:=q2.1;have S2:=Hh (S1.out.passed HP.out.1 HP.out.2.1 hle1 q2);have k2:w2.cell? ⟨w.heap.size+1,0,none⟩=some (.string (s.extract b s.size)):=S2.out.two.k1.read 0;clear q2)
 |(go_at_call 208;refine(c2 _).mono ?_;rintro e w3 ⟨rfl,b3⟩;have S3:=Hh (S2.out.next b3);clear b3
   have x1:w3.cell? ⟨w.heap.size+1,1,none⟩=some (.int .i64 ((Zs s (b:Int)).1:Nat)):=S3.out.two.k1.read 1;have x2:w3.cell? ⟨w.heap.size+1,2,none⟩=some (.int .i64 ((Zs s (b:Int)).2:Nat)):=S3.out.two.k1.read 2;have y0:w3.cell? ⟨w.heap.size,0,none⟩=some (.int .i64 0):=S3.out.two.k0.read 0;have y1:w3.cell? ⟨w.heap.size,1,none⟩=some (.int .i64 0):=S3.out.two.k0.read 1;have y2:w3.cell? ⟨w.heap.size,2,none⟩=some (.int .i64 0):=S3.out.two.k0.read 2;have z0:=S3.out.two.k0.thawed 0;have z1:=S3.out.two.k0.thawed 1;have z2:=S3.out.two.k0.thawed 2;have hlo:w.heap.size+1<w3.heap.size:=S3.out.lo
   have hlo0:w.heap.size<w3.heap.size:=Nat.lt_of_succ_lt hlo))
      go_region
      go_wp2_with(first
 |(at_builtin;refine Zdt (w:=w3.alloc (.cells #[.int .i64 K,.string X,.int .i64 N,.int .i64 ((Zs s (b:Int)).1:Nat),.int .i64 ((Zs s (b:Int)).2:Nat)] 85)) (.tmp 40) (.tmp 42) 78 85 48 _ Zjf Zjx (by rfl) (by decide) rfl rfl (w.heap.size+2) (.slice A acc.length cp) acc.length (Jy acc) _ _ _ _ _ rfl (S3.out.row.alloc _) (w3.heap.size+1) (by simp) rfl (by simp[Value.oneCell']) (by have:=HL.out;omega) (by simp;omega) ⟨rfl,rfl,rfl,rfl⟩ ?_
   intro v5 w5 o5 g5 at5;obtain⟨A5,cp5,rfl,_⟩:=Wd o5;have S5:=Hh (S3.out.push ((Below.refl _ _).alloc (Nat.le_refl _) _) (Zgk s b) (by rw[HSC.out.2.2];exact o5) g5);have T5:=Hh (Zfk g5 (Zd.made w3 85 #[.int .i64 K,.string X,.int .i64 N,.int .i64 ((Zs s (b:Int)).1:Nat),.int .i64 ((Zs s (b:Int)).2:Nat)]) (fun c=>by have:=(S3.out.row.lt _ c).2;omega));have t0:w5.cell? ⟨w3.heap.size,0,none⟩=some (.int .i64 K):=T5.out.read 0;have y0:w5.cell? ⟨w.heap.size,0,none⟩=some (.int .i64 0):=S5.out.two.k0.read 0;have y1:w5.cell? ⟨w.heap.size,1,none⟩=some (.int .i64 0):=S5.out.two.k0.read 1;have y2:w5.cell? ⟨w.heap.size,2,none⟩=some (.int .i64 0):=S5.out.two.k0.read 2;have z0:=S5.out.two.k0.thawed 0;have z1:=S5.out.two.k0.thawed 1;have z2:=S5.out.two.k0.thawed 2;clear o5 g5 at5)
 |(go_at_call 206;refine(tkPass (w.heap.size+1) (s.extract b s.size) (Zs s (b:Int)) Z _ (by rw[size_extract _ _ _ (Nat.le_refl _)];omega) (by rw[size_extract _ _ _ (Nat.le_refl _)];omega) (by omega) (by omega) S5.out.two.k1).mono ?_;rintro e w6 q6;obtain rfl:=q6.1;have S6:=Hh (S5.out.passed (b:=b+Z) HP.out.2.1 HSC.out.2.1 (by omega) (by rw[show b+Z - b=Z from by omega];exact q6));clear q6))
      go_roundw
      case rel=>exact⟨b+Z,acc++[Zgk s b],S6.out,HSC.out.2.1,by have:=HL.out;simp;omega,HSC.out.1.symm⟩
      case measure=>have:=HL.out;simp[lenV];omega
end Go.Proofs.YtljdgdphldckhaaGreat
