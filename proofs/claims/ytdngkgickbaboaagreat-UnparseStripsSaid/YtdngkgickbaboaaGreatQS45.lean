/-
  No conditions but those that each theorem names.
-/
import Derived.Test.YtdngkgickbaboaaGreatQS34
import Derived.Test.YtdngkgickbaboaaGreatQS35
import Derived.Test.YtdngkgickbaboaaGreatQS43
import Derived.Test.YtdngkgickbaboaaGreatQS44
set_option maxRecDepth 20000
set_option maxHeartbeats 12800000
namespace Go.Proofs.YtdngkgickbaboaaGreat
open Go.Great Go.ChangeShapes Go.WideShapes Go.ChangeAt Go.RowKit
set_option linter.unusedVariables false
set_option linter.unusedSimpArgs false
theorem Zir:∀ x:Acs,Zbc true x x
 |.nil=>trivial
 |.cons h t e r=>⟨⟨rfl,fun _=>⟨rfl,rfl⟩⟩,Zir t,Zir e,Zir r⟩
theorem Zlj:∀ l:List Ru,Zdh true l l
 |[]=>trivial
 |r::l=>⟨⟨rfl,rfl,(fun _=>⟨rfl,rfl⟩),Zir r.acts⟩,Zlj l⟩
theorem cas_reflZ:∀ l:List Ca,Zez true l l
 |[]=>trivial
 |c::l=>⟨⟨rfl,rfl,rfl,(fun _=>⟨rfl,rfl⟩),Zlj c.rules⟩,cas_reflZ l⟩
theorem pls_reflZ:∀ l:List Pl,Zey true l l
 |[]=>trivial
 |c::l=>⟨⟨rfl,(fun _=>⟨rfl,rfl⟩),Zlj c.rules⟩,pls_reflZ l⟩
theorem fi_reflZ(f:Fi):FiSim true f f:=⟨cas_reflZ f.cards,pls_reflZ f.places⟩
theorem Env.noTrees{w x:World}{bs:List Bk}{rs:List Rw}{ts:List (Ds×List Value)}(h:Env w bs rs ts x):Env w bs rs [] x:=⟨h.at_,h.lo,h.nod,h.row,h.apart,h.rapart,(fun t ht=>by cases ht),h.below⟩
theorem Env.oneTree{w x:World}{bs:List Bk}{rs:List Rw}(h:Env w bs rs [] x){ds:Ds}{vs:List Value}(d:Zn (Zha w bs rs) x ds vs):Env w bs rs [(ds,vs)] x:=⟨h.at_,h.lo,h.nod,h.row,h.apart,h.rapart,(fun t ht=>by cases List.mem_singleton.1 ht;exact d),h.below⟩
theorem wpList_allocX{P:Program}{ops:Array Oper}{rest:List Oper}{o:Oper}{a:Act}{w x:World}{Q:Exit→Act→World→Prop}{bs:List Bk}{rs:List Rw}{ts:List (Ds×List Value)}(h:Env w bs rs ts x)(t:TypeId)(vs:List Value)(hg:o.guard=none)(ho:o.op=.alloc t)(hz:(P.info? t).map (fun i=>i.zero.map Value.cells)=some (some vs.toArray))
  (hn:∀ y g,Env w (bs++[(g,t,vs)]) rs ts y→Below x.heap.size x y→x.heap.size≤g→wpList P ops Q rest (a.put o.dst (.pointer (some ⟨g,0,none⟩))) y):wpList P ops Q (o::rest) a x:=by
 obtain⟨i,hi,hzz⟩:=Option.map_eq_some_iff.1 hz;obtain⟨z,hz1,hz2⟩:=Option.map_eq_some_iff.1 hzz;refine wpList_runTo hg o.dst rfl (.pointer (some ⟨x.heap.size,0,none⟩)) (x.alloc (.cells vs.toArray t)) ?_ (hn _ _ (h.box t vs) (Zi x _) (Nat.le_refl _));unfold execOp;rw[ho];simp[Instr.alloc,zeroValue,typeInfo,hi,hz1,newVar,newRow,hz2,Sem.run_bind,Sem.run_pure,run_newObj_alloc]
theorem size_strZ:(Tryz.prog.info? 9).map (·.size)=some 1:=by kernel_rfl
theorem gdeep{b:Nat}{w:World}{f:Fi}{uC uP:Value}(h:Zlz b w uC f.cards)(p:Vb (.row f.places.length (Jx (f.places.map Pl.bare)) .nil) b w [uP]):Vb f.bare.ds b w [uC,uP]:=by
 have h1:=Zn.app (x:=.row f.cards.length (Zaa (f.cards.map Ca.bare)) .nil) p h.new
 have e:f.bare.ds=.row f.cards.length (Zaa (f.cards.map Ca.bare)) (.row f.places.length (Jx (f.places.map Pl.bare)) .nil):=by
  show Ds.row (f.cards.map Ca.bare).length _ (.row (f.places.map Pl.bare).length _ .nil)=_;rw[List.length_map,List.length_map];rfl
 rw[e];exact h1
theorem own_n{w:World}{lo sz:Nat}{T:TypeId}{A:Option Addr}{n c m:Nat}{zs:List Value}(h:w.ownsRow lo T sz (.slice A n c) m zs):m=n:=by
 rcases h.2 with⟨h,e⟩ | ⟨g,cap,cur,h,_⟩
 ·injection h with _ h;omega
 ·injection h with _ h;exact h.symm
theorem own_ne{w:World}{lo sz:Nat}{T T':TypeId}{g g' n c:Nat}{zs cs:List Value}(h:w.ownsRow lo T sz (.slice (some ⟨g,0,none⟩) n c) n zs)(hW:Zf w g' T' cs.toArray)(hT:T'≠T):g≠g':=by
 rintro rfl;rcases h.2 with⟨h,_⟩ | ⟨g2,cap,cur,h,_,hg,_⟩
 ·cases h
 ·injection h with h
  injection h with h;injection h with h;subst h;unfold Zf at hW;rw[hg]at hW;injection hW with hW;injection hW with _ hW;exact hT hW.symm
theorem SpC.cell{lo hi:Nat}{x:World}{gC n c m:Nat}(h:SpC lo hi x (.slice (some ⟨gC,0,none⟩) n c))(hm:m<n):∃ A j c',x.cell? ⟨gC,m*6+5,none⟩=some (.slice A j c')∧SpR lo hi x (.slice A j c')∧j≤9223372036854775807∧∃ gb,0<j→A=some ⟨gb,0,none⟩:=by
 obtain⟨n',zs,h1,h2,h3⟩:=h;obtain rfl:=own_n h1;obtain⟨v,hv,h4⟩:=h3 m hm;obtain⟨j,ys,g1,g2,g3⟩:=id h4;obtain⟨A,c',gb,rfl,g4,g5⟩:=own_idx g1;have hms:(m+1)*6≤n'*6:=Nat.mul_le_mul_right 6 hm;exact⟨A,j,c',by rw[h1.cellAt (m*6+5) (by omega)];exact hv,h4,g4,gb,g5⟩
theorem SpR.cell{lo hi:Nat}{x:World}{gR n c m:Nat}(h:SpR lo hi x (.slice (some ⟨gR,0,none⟩) n c))(hm:m<n):∃ A j c',x.cell? ⟨gR,m*5+4,none⟩=some (.slice A j c')∧SpA lo hi x (.slice A j c')∧j≤9223372036854775807∧∃ gb,0<j→A=some ⟨gb,0,none⟩:=by
 obtain⟨n',zs,h1,h2,h3⟩:=h;obtain rfl:=own_n h1;obtain⟨v,hv,h4⟩:=h3 m hm;obtain⟨j,ys,g1,g2⟩:=id h4;obtain⟨A,c',gb,rfl,g4,g5⟩:=own_idx g1;have hms:(m+1)*5≤n'*5:=Nat.mul_le_mul_right 5 hm;exact⟨A,j,c',by rw[h1.cellAt (m*5+4) (by omega)];exact hv,h4,g4,gb,g5⟩
theorem Lz.name{cc:LzC}{x:World}(h:Lz cc x)(ok:LzOK cc){gC n c m:Nat}(hu:cc.uC=.slice (some ⟨gC,0,none⟩) n c)(hm:m<n) :
  ∃ pre old post,Zf x gC 35 (pre++[old]++post).toArray∧pre.length=m*6∧∀ v y,Put x y gC 35 (pre++[v]++post)→Lz cc y:=by
 have hs:=h.sp;rw[hu]at hs;obtain⟨n',zs,h1,h2,h3⟩:=hs;obtain rfl:=own_n h1;have hms:(m+1)*6≤n'*6:=Nat.mul_le_mul_right 6 hm;obtain⟨pre,old,post,hW,hp,hset⟩:=own_cell h1 (i:=m*6) (by omega);refine⟨pre,old,post,hW,hp,fun v y p=>?_⟩;obtain⟨ys,g1,g2⟩:=hset v y p.whole;refine h.put ok (h2 gC rfl) p.keeps ?_;rw[hu];refine⟨n',ys,g1,h2,fun q hq=>?_⟩;obtain⟨u,hv,h4⟩:=h3 q hq;exact⟨u,by rw[g2 _ (by omega)];exact hv,h4.put hW (by simp) p (by decide)⟩
structure L2(cc:LzC)(gC m:Nat)(v:Value)(x:World):Prop where
 z:Lz cc x
 cell:x.cell? ⟨gC,m*6+5,none⟩=some v
 sp:SpR cc.lo cc.hi x v
structure L3(cc:LzC)(gC m:Nat)(v:Value)(gR k:Nat)(a:Value)(x:World):Prop where
 l:L2 cc gC m v x
 cell:x.cell? ⟨gR,k*5+4,none⟩=some a
 sp:SpA cc.lo cc.hi x a
theorem L3.kind{cc:LzC}{x:World}(ok:LzOK cc){gC n c m gR j c2 k gA q c3 i:Nat}(h:L3 cc gC m (.slice (some ⟨gR,0,none⟩) j c2) gR k (.slice (some ⟨gA,0,none⟩) q c3) x)(hu:cc.uC=.slice (some ⟨gC,0,none⟩) n c)(hi:i<q) :
  ∃ pre old post,Zf x gA 58 (pre++[old]++post).toArray∧pre.length=i*53∧∀ v y,Put x y gA 58 (pre++[v]++post)→L3 cc gC m (.slice (some ⟨gR,0,none⟩) j c2) gR k (.slice (some ⟨gA,0,none⟩) q c3) y:=by
 obtain⟨q',zs,h1,h2⟩:=id h.sp;obtain rfl:=own_n h1;have hms:(i+1)*53≤q'*53:=Nat.mul_le_mul_right 53 hi;obtain⟨pre,old,post,hW,hp,hset⟩:=own_cell h1 (i:=i*53) (by omega);have hs:=h.l.z.sp;rw[hu]at hs;obtain⟨n',cs,c1,_⟩:=id hs;obtain⟨j',rs,r1,_⟩:=id h.l.sp;obtain rfl:=own_n c1;obtain rfl:=own_n r1;have ne1:=own_ne c1 hW (by decide);have ne2:=own_ne r1 hW (by decide);refine⟨pre,old,post,hW,hp,fun v y p=>?_⟩;have e1:∀ o,y.cell? ⟨gC,o,none⟩=x.cell? ⟨gC,o,none⟩:=fun o=>World.cell?_of_block (a:=⟨gC,o,none⟩) (p.keeps.block gC (c1.lt gC rfl).2 (fun e=>ne1 e))
 have e2:∀ o,y.cell? ⟨gR,o,none⟩=x.cell? ⟨gR,o,none⟩:=fun o=>World.cell?_of_block (a:=⟨gR,o,none⟩) (p.keeps.block gR (r1.lt gR rfl).2 (fun e=>ne2 e))
 refine⟨⟨h.l.z.put ok (h2 gA rfl) p.keeps ?_,by rw[e1];exact h.l.cell,h.l.sp.put hW (by simp) p (by decide)⟩,by rw[e2];exact h.cell,h.sp.put hW (by simp) p⟩;exact h.l.z.sp.put hW (by simp) p
theorem walk_UnparseStrips(s:ByteArray)(w:World)(hs:s.size≤maxLen):Calls Tryz.prog 4 #[.string s] w fun e w'=>e=.returned (.bool true)∧Below w.heap.size w w':=by
 unfold maxLen at hs;have T:=Hh (Env.start w);by_cases hle:4000<s.size
 ·go_enter Tryz.func4,Tryz.ntmps4
  go_wp2_with(go_at_call 5;refine(lives12 _).mono ?_;rintro e wn ⟨rfl,bn⟩;have T:=Hh (T.out.call bn);clear bn)
  go_ret;exact⟨rfl,T.out.below⟩
 have hle':s.size≤4000:=by omega
 obtain⟨f,E,F1,F2,hp⟩:∃(f:Fi)(E:Int)(F1 F2:Nat),Zjm 3 s=(f,E,F1,F2):=⟨_,_,_,_,rfl⟩
 have hv:=parse_val 3 s (by omega);have hl:=parse_len 3 s (by omega);rw[hp]at hv hl;dsimp only at hv hl;have hsm:=sm_fi hv (by omega);obtain⟨nC,hC⟩:∃ n,n=f.cards.length:=⟨_,rfl⟩
 obtain⟨nP,hP⟩:∃ n,n=f.places.length:=⟨_,rfl⟩
 have hP1:=Hh (fun y=>(show Calls Tryz.prog 6 #[.string s] y (fun e w'=>∃(A B:Option Addr)(ca pb:Nat),e=.returned (.tuple #[.agg ([.slice A nC ca,.slice B nP pb]:List Value).toArray,.agg ([.int .i64 E,.int .i64 (F1:Int),.int .i64 (F2:Int)]:List Value).toArray])∧Zn (fun k=>y.heap.size≤k) w' f.ds [.slice A nC ca,.slice B nP pb]∧Below y.heap.size y w')from by
  have h:=qFile s y (by omega);rw[hp]at h;refine h.mono ?_;rintro e z ⟨vs,rfl,d,b⟩;obtain⟨A,ca,xs,_,rfl,hn,hw,hx,B,pb,ys,_,rfl,hk,hw2,hx2,rfl⟩:=id d;rw[hC,hP];exact⟨A,B,ca,pb,rfl,d,b⟩))
 have HN:=Hh (And.intro hC hP);clear hp hC hP hv hl;by_cases hE:¬ E=0
 ·have bE:(E != 0)=true:=by simpa using hE
  go_enter Tryz.func4,Tryz.ntmps4;go_wp2_with(first
 |(go_at_call 6;(with_reducible refine(hP1.out _).mono ?_);rintro e wn ⟨A,B,ca,pb,rfl,d,bn⟩;have T:=Hh (T.out.tree bn d);clear bn d)
 |((with_reducible refine Zd 3 ?_);refine Zc T.out 26 ([.slice none 0 0,.slice none 0 0]) rfl rfl z_fiS ?_;intro wn g3 tn;have T:=Hh tn;clear tn)
 |((with_reducible refine Zd 4 ?_);refine Zc T.out 29 ([.int .i64 0,.int .i64 0,.int .i64 0]) rfl rfl z_faB ?_;intro wn g4 tn;have T:=Hh tn;clear tn)
 |((with_reducible refine Zg 3 19 ?_);refine Za 26 _ _ 26 g3 _ ([.slice A nC ca,.slice B nP pb]) (T.out.get 0 rfl) rfl Zfr (by simp[Value.oneCell']) rfl rfl rfl rfl rfl ?_;intro wn p;have T:=Hh (T.out.put 0 rfl p);clear p)
 |((with_reducible refine Zg 4 20 ?_);refine Za 29 _ _ 29 g4 _ ([.int .i64 E,.int .i64 (F1:Int),.int .i64 (F2:Int)]) (T.out.get 1 rfl) rfl s_faB (by simp[Value.oneCell']) rfl rfl rfl rfl rfl ?_;intro wn p;have T:=Hh (T.out.put 1 rfl p);clear p;have c0:wn.cell? ⟨g3,0,none⟩=some (.slice A nC ca):=(T.out.get 0 rfl).read 0;have c1:wn.cell? ⟨g3,1,none⟩=some (.slice B nP pb):=(T.out.get 0 rfl).read 1;have c2:wn.cell? ⟨g4,0,none⟩=some (.int .i64 E):=(T.out.get 1 rfl).read 0)
 |(go_at_call 5;refine(lives12 _).mono ?_;rintro e wn ⟨rfl,bn⟩;have T:=Hh (T.out.call bn);clear bn))
  go_ret;exact⟨rfl,T.out.below⟩
 have hE:E=0:=by omega
 subst hE;have HS:=Hh (fun x N vC vP d=>strip_any x N f hsm vC vP d);clear hsm;go_enter Tryz.func4,Tryz.ntmps4;go_wp2_with(first
 |(go_at_call 6;(with_reducible refine(hP1.out _).mono ?_);rintro e wn ⟨A,B,ca,pb,rfl,d,bn⟩;have T:=Hh (T.out.tree bn d);clear bn d)
 |((with_reducible refine Zd 3 ?_);refine Zc T.out 26 ([.slice none 0 0,.slice none 0 0]) rfl rfl z_fiS ?_;intro wn g3 tn;have T:=Hh tn;clear tn)
 |((with_reducible refine Zd 4 ?_);refine Zc T.out 29 ([.int .i64 0,.int .i64 0,.int .i64 0]) rfl rfl z_faB ?_;intro wn g4 tn;have T:=Hh tn;clear tn)
 |((with_reducible refine Zg 3 19 ?_);refine Za 26 _ _ 26 g3 _ ([.slice A nC ca,.slice B nP pb]) (T.out.get 0 rfl) rfl Zfr (by simp[Value.oneCell']) rfl rfl rfl rfl rfl ?_;intro wn p;have T:=Hh (T.out.put 0 rfl p);clear p)
 |((with_reducible refine Zg 4 20 ?_);refine Za 29 _ _ 29 g4 _ ([.int .i64 0,.int .i64 (F1:Int),.int .i64 (F2:Int)]) (T.out.get 1 rfl) rfl s_faB (by simp[Value.oneCell']) rfl rfl rfl rfl rfl ?_;intro x0 p;have T:=Hh (T.out.put 1 rfl p);clear p;have c0:x0.cell? ⟨g3,0,none⟩=some (.slice A nC ca):=(T.out.get 0 rfl).read 0;have c1:x0.cell? ⟨g3,1,none⟩=some (.slice B nP pb):=(T.out.get 0 rfl).read 1;have c2:x0.cell? ⟨g4,0,none⟩=some (.int .i64 0):=(T.out.get 1 rfl).read 0)
 |(go_at_call 13;refine(HS.out _ _ _ _ (T.out.leaf 0 rfl)).mono ?_;rintro e x1 ⟨uC,uP,rfl,⟨o1,o2⟩,cr,np,b1⟩;have l3:g3<x0.heap.size:=Zf.inside (T.out.get 0 rfl);have l4:g4<x0.heap.size:=Zf.inside (T.out.get 1 rfl);have lw:=T.out.below.size;have d0:Zn (fun k=>Zha w [(g3,26,[.slice A nC ca,.slice B nP pb]),(g4,29,[.int .i64 0,.int .i64 (F1:Int),.int .i64 (F2:Int)])] [] k∧k<x0.heap.size) x0 f.ds [.slice A nC ca,.slice B nP pb]:=Zn.mono (T.out.deep _ (List.mem_singleton.2 rfl)) (fun k hk hn=>⟨hn,hk⟩);have TR:=Hh (Zn.below d0 b1);have sp:=cr.sp;have dg:Vb f.bare.ds x0.heap.size x1 [uC,uP]:=gdeep cr np;obtain⟨n',zs,ho,_,_⟩:=id sp;obtain⟨AC,cC,gC,rfl,hnc,hAC⟩:=own_idx ho;have SP:=Hh sp;have DG:=Hh dg;have LO:=Hh (And.intro lw (And.intro l3 (And.intro l4 b1.size)));have T:=Hh ((T.out.call b1).noTrees);clear cr np sp dg d0 ho l3 l4 lw o1 b1;obtain⟨nc,hnn⟩:∃ n,n=n':=⟨_,rfl⟩;subst hnn;have c0:x1.cell? ⟨g3,0,none⟩=some (.slice A nC ca):=(T.out.get 0 rfl).read 0)
 |((with_reducible refine Zd 5 ?_);refine wpList_allocX T.out 26 ([.slice none 0 0,.slice none 0 0]) rfl rfl z_fiS ?_;intro y5 g5 tn b5 h5;have T:=Hh tn;have B5:=Hh b5;clear tn b5)
 |((with_reducible refine Zg 5 26 ?_);refine Za 26 _ _ 26 g5 _ ([.slice AC nc cC,uP]) (T.out.get 2 rfl) rfl Zfr (by intro v hv;rcases List.mem_cons.1 hv with rfl | hv;rfl;cases List.mem_singleton.1 hv;exact o2) rfl rfl rfl rfl rfl ?_;intro y6 p;have T:=Hh (T.out.put 2 rfl p);have B6:=Hh (B5.out.trans (p.keeps.below (B:=x1.heap.size) B5.out.size (fun k e=>by subst e;exact h5)));have HSA:=Hh (fun y (b:Below x1.heap.size x1 y)=>sSame false f f.bare y _ _ _ _ (fi_bare f) (Zn.below TR.out b) (Zn.below DG.out b));have HST:=Hh (fun y (b:Below x1.heap.size x1 y)=>rStripped f y _ _ (Zn.below DG.out b));clear p;have c0:y6.cell? ⟨g3,0,none⟩=some (.slice A nC ca):=(T.out.get 0 rfl).read 0;have c1:y6.cell? ⟨g3,1,none⟩=some (.slice B nP pb):=(T.out.get 0 rfl).read 1;have d0:y6.cell? ⟨g5,0,none⟩=some (.slice AC nc cC):=(T.out.get 2 rfl).read 0;have d1:y6.cell? ⟨g5,1,none⟩=some uP:=(T.out.get 2 rfl).read 1)
 |(go_at_call 14;refine(HSA.out _ B6.out).mono ?_;rintro e wn ⟨rfl,bn⟩;have T:=Hh (T.out.call bn);have B6:=Hh (B6.out.trans (bn.mono B6.out.size));clear bn;have d0:wn.cell? ⟨g5,0,none⟩=some (.slice AC nc cC):=(T.out.get 2 rfl).read 0;have d1:wn.cell? ⟨g5,1,none⟩=some uP:=(T.out.get 2 rfl).read 1)
 |(go_at_call 15;refine(HST.out _ B6.out).mono ?_;rintro e x9 ⟨rfl,bn⟩;have T:=Hh (T.out.call bn);have B6:=Hh (B6.out.trans (bn.mono B6.out.size));clear bn;have d0:x9.cell? ⟨g5,0,none⟩=some (.slice AC nc cC):=(T.out.get 2 rfl).read 0;have d1:x9.cell? ⟨g5,1,none⟩=some uP:=(T.out.get 2 rfl).read 1))
 obtain⟨cc,hcc⟩:∃ c:LzC,c=⟨w,x0.heap.size,x1.heap.size,g3,g4,g5,[.slice A nC ca,.slice B nP pb],[.int .i64 0,.int .i64 (F1:Int),.int .i64 (F2:Int)],[.slice AC nc cC,uP],f,fun k=>Zha w [(g3,26,[.slice A nC ca,.slice B nP pb]),(g4,29,[.int .i64 0,.int .i64 (F1:Int),.int .i64 (F2:Int)])] [] k∧k<x0.heap.size,.slice AC nc cC⟩:=⟨_,rfl⟩
 have OK:Hid (LzOK cc):=Hh (by subst hcc;exact⟨LO.out.1,LO.out.2.1,LO.out.2.2.1,h5,fun k h=>h.2,fun k h=>h.1⟩);have Z:Hid (Lz cc x9):=Hh (by subst hcc;exact⟨T.out,Zn.below TR.out B6.out,SP.out.keep (S:=fun _=>False) (Zq.of_below B6.out) (fun k h=>nomatch h),Nat.le_trans LO.out.2.2.2 B6.out.size⟩);have HU:Hid (cc.uC=.slice AC nc cC):=Hh (by rw[hcc]);have HD:=Hh (fun x (h:Lz cc x)=>(show x.cell? ⟨g5,0,none⟩=some (.slice AC nc cC)from by subst hcc;exact(h.env.get 2 rfl).read 0))
 have HZ:=Hh (fun x (h:Lz cc x)=>(show Env w [(g3,26,[.slice A nC ca,.slice B nP pb]),(g4,29,[.int .i64 0,.int .i64 (F1:Int),.int .i64 (F2:Int)]),(g5,26,[.slice AC nc cC,uP])] [] [(f.ds,[.slice A nC ca,.slice B nP pb])] x from by
  subst hcc;refine h.env.oneTree (Zn.mono h.tree fun k _ hk=>⟨hk.1.1,fun b hb=>?_,fun r hr=>by cases hr⟩);rcases List.mem_cons.1 hb with rfl | hb
  ·exact hk.1.2.1 _ (by simp)
  rcases List.mem_cons.1 hb with rfl | hb
  ·exact hk.1.2.1 _ (by simp)
  · cases List.mem_singleton.1 hb
    show g5≠k;have h1:=hk.2;have h2:=LO.out.2.2.2;omega))
 have HSP:=Hh (fun x (h:Lz cc x)=>(show SpC cc.lo cc.hi x (.slice AC nc cC)from by have:=h.sp;rw[HU.out]at this;exact this));have HR:=Hh (fi_reflZ f);clear hcc TR SP DG LO B5 B6 HSA HST T h5 d1 o2;go_loopw [37] (fun i wr=>∃ m:Nat,i=.int .i64 m∧m≤nc∧Lz cc wr) (fun i _=>nc - (intOf i).toNat)
 case atStart=>exact⟨0,by go_num,Nat.zero_le _,Z.out⟩
 case round=>
  obtain⟨m,rfl,hm,hT⟩:=hrel;have Z:=Hh hT;clear hT;have d0:=HD.out _ Z.out;by_cases hlt:m<nc
  · obtain rfl:=hAC (by omega)
    obtain⟨pre,old,post,hW,hpl,hset⟩:=Z.out.name OK.out HU.out hlt;have HW:=Hh hW;have HPL:=Hh hpl;have HSET:=Hh hset;clear hW hpl hset;have lk:(m:Int)<(nc:Int):=by omega
    go_wp2_with(first
 |((with_reducible refine Zjc 44 ?_);refine Zj 9 _ _ 35 gC (m*6) pre old _ post HW.out HPL.out.symm size_strZ rfl rfl rfl rfl rfl rfl ?_;intro w1 p;have Z:=Hh (HSET.out _ _ p);clear p;have d0:=HD.out _ Z.out;obtain⟨AR,j,cR,e0,hspr,hj,gR,hAR⟩:=(HSP.out _ Z.out).cell hlt;have Y:Hid (L2 cc gC m (.slice AR j cR) w1):=Hh ⟨Z.out,e0,hspr⟩;clear hspr))
    go_loopw [52] (fun i wr=>∃ k:Nat,i=.int .i64 k∧k≤j∧L2 cc gC m (.slice AR j cR) wr) (fun i _=>j - (intOf i).toNat)
    case atStart=>exact⟨0,by go_num,Nat.zero_le _,Y.out⟩
    case round=>
     obtain⟨k,rfl,hk,hY⟩:=hrel;have Y:=Hh hY;clear hY;by_cases hlt2:k<j
     ·obtain rfl:=hAR (by omega)
      have d0:=HD.out _ Y.out.z;have e0:=Y.out.cell;obtain⟨AA,q,cA,f0,hspa,hq,gA,hAA⟩:=Y.out.sp.cell hlt2;have X:Hid (L3 cc gC m (.slice (some ⟨gR,0,none⟩) j cR) gR k (.slice AA q cA) _):=Hh ⟨Y.out,f0,hspa⟩;clear hspa;have lk2:(k:Int)<(j:Int):=by omega
      go_wp2_with fail
      go_loopw [66] (fun i wr=>∃ r:Nat,i=.int .i64 r∧r≤q∧L3 cc gC m (.slice (some ⟨gR,0,none⟩) j cR) gR k (.slice AA q cA) wr) (fun i _=>q - (intOf i).toNat)
      case atStart=>exact⟨0,by go_num,Nat.zero_le _,X.out⟩
      case round=>
       obtain⟨r,rfl,hr,hX⟩:=hrel;have X:=Hh hX;clear hX;by_cases hlt3:r<q
       ·obtain rfl:=hAA (by omega)
        have d0:=HD.out _ X.out.l.z;have e0:=X.out.l.cell;have f0:=X.out.cell;obtain⟨pr3,ol3,po3,hW3,hp3,hs3⟩:=X.out.kind OK.out HU.out hlt3;have HW3:=Hh hW3;have HP3:=Hh hp3;have HS3:=Hh hs3;clear hW3 hp3 hs3;have lk3:(r:Int)<(q:Int):=by omega
        go_wp2_with(first
 |((with_reducible refine Zjc 81 ?_);refine Zj 3 _ _ 58 gA (r*53) pr3 ol3 _ po3 HW3.out HP3.out.symm Yb rfl rfl rfl rfl rfl rfl ?_;intro w3 p;have X:=Hh (HS3.out _ _ p);clear p d0 e0 f0))
        go_roundw
        case rel=>exact⟨r+1,by go_num,by omega,X.out⟩
        case measure=>simp[intOf];omega
       ·have lk3:¬(r:Int)<(q:Int):=by omega
        clear d0 e0 f0;go_wp2_with fail
        go_roundw
        case rel=>exact⟨k+1,by go_num,by omega,X.out.l⟩
        case measure=>simp[intOf];omega
     ·have lk2:¬(k:Int)<(j:Int):=by omega
      clear d0 e0;go_wp2_with fail
      go_roundw
      case rel=>exact⟨m+1,by go_num,by omega,Y.out.z⟩
      case measure=>simp[intOf];omega
  · have lk:¬(m:Int)<(nc:Int):=by omega
    have T:=Hh (HZ.out _ Z.out);clear d0 Z;go_wp2_with(first
 |(go_at_call 6;(with_reducible refine(hP1.out _).mono ?_);rintro e wn ⟨A2,B2,ca2,pb2,rfl,d,bn⟩;have T:=Hh (T.out.tree bn d);clear bn d)
 |((with_reducible refine Zd 10 ?_);refine Zc T.out 26 ([.slice none 0 0,.slice none 0 0]) rfl rfl z_fiS ?_;intro wn g10 tn;have T:=Hh tn;clear tn)
 |((with_reducible refine Zd 11 ?_);refine Zc T.out 29 ([.int .i64 0,.int .i64 0,.int .i64 0]) rfl rfl z_faB ?_;intro wn g11 tn;have T:=Hh tn;clear tn)
 |((with_reducible refine Zg 10 88 ?_);refine Za 26 _ _ 26 g10 _ ([.slice A2 nC ca2,.slice B2 nP pb2]) (T.out.get 3 rfl) rfl Zfr (by simp[Value.oneCell']) rfl rfl rfl rfl rfl ?_;intro wn p;have T:=Hh (T.out.put 3 rfl p);clear p)
 |((with_reducible refine Zg 11 89 ?_);refine Za 29 _ _ 29 g11 _ ([.int .i64 0,.int .i64 (F1:Int),.int .i64 (F2:Int)]) (T.out.get 4 rfl) rfl s_faB (by simp[Value.oneCell']) rfl rfl rfl rfl rfl ?_;intro wn p;have T:=Hh (T.out.put 4 rfl p);clear p;have c0:wn.cell? ⟨g3,0,none⟩=some (.slice A nC ca):=(T.out.get 0 rfl).read 0;have c1:wn.cell? ⟨g3,1,none⟩=some (.slice B nP pb):=(T.out.get 0 rfl).read 1;have c2:wn.cell? ⟨g10,0,none⟩=some (.slice A2 nC ca2):=(T.out.get 3 rfl).read 0;have c3:wn.cell? ⟨g10,1,none⟩=some (.slice B2 nP pb2):=(T.out.get 3 rfl).read 1)
 |(go_at_call 14;refine(sSame true f f _ _ _ _ _ HR.out (T.out.leaf 0 rfl) (T.out.leaf 1 rfl)).mono ?_;rintro e wn ⟨rfl,bn⟩;have T:=Hh (T.out.call bn);clear bn)
 |(go_at_call 5;refine(lives12 _).mono ?_;rintro e wn ⟨rfl,bn⟩;have T:=Hh (T.out.call bn);clear bn))
    go_ret;exact⟨rfl,T.out.below⟩
end Go.Proofs.YtdngkgickbaboaaGreat
