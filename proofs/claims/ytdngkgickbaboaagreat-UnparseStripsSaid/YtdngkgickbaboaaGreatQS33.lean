/-
  No conditions but those that each theorem names.
-/
import Derived.Test.YtdngkgickbaboaaGreatQS32
set_option maxRecDepth 20000
set_option maxHeartbeats 12800000
namespace Go.Proofs.YtdngkgickbaboaaGreat
open Go.Great Go.ChangeShapes Go.WideShapes Go.ChangeAt Go.RowKit
set_option linter.unusedVariables false
set_option linter.unusedSimpArgs false
def Zlz(b:Nat)(w:World)(u:Value)(l:List Ca):Prop:=∃ zs,w.ownsRow b 35 6 u l.length zs∧∀ m (h:m<l.length),DCa (l[m]'h) b w (elm 6 m zs)
theorem Zlz.le{b c:Nat}{w:World}{u:Value}{l:List Ca}(h:Zlz b w u l)(hc:c≤b):Zlz c w u l:=by
 obtain⟨zs,h1,h2⟩:=h;exact⟨zs,own_le h1 hc,fun m hm=>(DCa.stb _).mono (h2 m hm) hc⟩
theorem Zlz.keep{b g:Nat}{w w':World}{u:Value}{l:List Ca}(h:Zlz b w u l)(k:Zq (fun k=>k=g) w w')(hg:g<b):Zlz b w' u l:=by
 obtain⟨zs,h1,h2⟩:=h;exact⟨zs,Zkn h1 k hg,fun m hm=>(DCa.stb _).keep (h2 m hm) k hg⟩
theorem Zlz.new{b:Nat}{w:World}{u:Value}{l:List Ca}(h:Zlz b w u l):Vb (.row l.length (Zaa (l.map Ca.bare)) .nil) b w [u]:=by
 obtain⟨zs,h1,h2⟩:=h;refine Zn.rowOf h1 (fun k h=>h) ?_;rw[casDs_L];refine Zjr (sz:=6) (by rw[h1.1];simp) fun m hm=>?_
 rw[List.getElem_map,List.getElem_map];exact(h2 m (by simpa using hm)).1
theorem chgC(w:World)(N:Nat→Prop)(v:Value)(l:List Ca)(hn:l.length≤1000000)(hs:∀ c ∈ l,Zmo c.rules)(hd:Zn N w (.row l.length (Zaa l) .nil) [v]) :
  Calls Tryz.prog 35 #[v,.func (.func 36) #[] #[]] w fun e w'=>∃ v',e=.returned v'∧v'.oneCell'=true∧Zlz w.heap.size w' v' l∧Below w.heap.size w w':=by
 obtain⟨E,hE⟩:∃ E:Nat→Ca,∀ m (h:m<l.length),l[m]'h=E m:=⟨fun m=>l.getD m ⟨⟨#[]⟩,0,0,0,0,[]⟩,fun m h=>by simp[List.getD,h]⟩
 have h:=chg_Ca w N v (l.map Ca.ds) (fun m=>DCa (E m)) (fun d hd=>by obtain⟨r,_,rfl⟩:=List.mem_map.1 hd;rfl) (by rw[List.length_map];exact hn) (by rw[List.length_map,←casDs_L];exact hd) (fun j=>DCa.stb _) (fun m h=>by
  have hm:m<l.length:=by simpa using h
  have:=stripCard_ok (l[m]'hm) (hs _ (List.getElem_mem hm));rw[List.getElem_map,←hE m hm];exact this)
 rw[List.length_map]at h;refine h.mono ?_;rintro e w' ⟨v',zs,rfl,ho,hD,hb⟩;exact⟨v',rfl,Zde ho,⟨zs,ho,fun m h=>by rw[hE m h];exact hD m h⟩,hb⟩
theorem chgP(w:World)(N:Nat→Prop)(v:Value)(l:List Pl)(hn:l.length≤1000000)(hs:∀ c ∈ l,Zmo c.rules)(hd:Zn N w (.row l.length (Jx l) .nil) [v]) :
  Calls Tryz.prog 37 #[v,.func (.func 38) #[] #[]] w fun e w'=>∃ v',e=.returned v'∧v'.oneCell'=true∧Vb (.row l.length (Jx (l.map Pl.bare)) .nil) w.heap.size w' [v']∧Below w.heap.size w w':=by
 obtain⟨E,hE⟩:∃ E:Nat→Pl,∀ m (h:m<l.length),l[m]'h=E m:=⟨fun m=>l.getD m ⟨⟨#[]⟩,0,0,[]⟩,fun m h=>by simp[List.getD,h]⟩
 have h:=chg_Pl w N v (l.map Pl.ds) (fun m=>Vb (E m).bare.ds) (fun d hd=>by obtain⟨r,_,rfl⟩:=List.mem_map.1 hd;rfl) (by rw[List.length_map];exact hn) (by rw[List.length_map,←plsDs_L];exact hd) (fun j=>Vb.stb _ rfl) (fun m h=>by
  have hm:m<l.length:=by simpa using h
  have:=stripPlace_ok (l[m]'hm) (hs _ (List.getElem_mem hm));rw[List.getElem_map,←hE m hm];exact this)
 rw[List.length_map]at h;refine h.mono ?_;rintro e w' ⟨v',zs,rfl,ho,hD,hb⟩;refine⟨v',rfl,Zde ho,Zn.rowOf ho (fun k h=>h) ?_,hb⟩;rw[plsDs_L];refine Zjr (sz:=4) (by rw[ho.1];simp) fun m hm=>?_
 rw[List.getElem_map,List.getElem_map,hE m (by simpa using hm)];exact hD m (by simpa using hm)
theorem z_fiS:(Tryz.prog.info? 26).map (fun i=>i.zero.map Value.cells)=some (some ([.slice none 0 0,.slice none 0 0]:List Value).toArray):=by kernel_rfl
theorem size_casS:(Tryz.prog.info? 23).map (·.size)=some 1:=by kernel_rfl
theorem size_plsS:(Tryz.prog.info? 24).map (·.size)=some 1:=by kernel_rfl
theorem row_fiS:(Tryz.prog.underlying 26).map TypeDesc.isRow=some true:=by kernel_rfl
theorem Zfr:(Tryz.prog.info? 26).map (·.size)=some 2:=by kernel_rfl
theorem strip_any(w:World)(N:Nat→Prop)(f:Fi)(hs:SmFi f)(vC vP:Value)(hd:Zn N w f.ds [vC,vP]) :
  Calls Tryz.prog 13 #[.agg [vC,vP].toArray] w fun e w'=>∃ uC uP,e=.returned (.agg [uC,uP].toArray)∧(uC.oneCell'=true∧uP.oneCell'=true)∧Zlz w.heap.size w' uC f.cards∧Vb (.row f.places.length (Jx (f.places.map Pl.bare)) .nil) w.heap.size w' [uP]∧Below w.heap.size w w':=by
 have hd':Zn (fun k=>k<w.heap.size) w f.ds [vC,vP]:=Zn.mono hd fun k hk _=>hk
 obtain⟨A,c,xs,_,e1,hn,hw,hx,B,d,ys,_,e2,hn2,hw2,hx2,e3⟩:=hd';injection e1 with e1 e1';subst e1';injection e2 with e2 e2';have h1:Zn (fun k=>k<w.heap.size) w (.row f.cards.length (Zaa f.cards) .nil) [vC]:=⟨A,c,xs,[],by rw[e1],hn,hw,hx,rfl⟩
 have h2:Zn (fun k=>k<w.heap.size) w (.row f.places.length (Jx f.places) .nil) [vP]:=⟨B,d,ys,[],by rw[e2],hn2,hw2,hx2,rfl⟩
 have o1:=hd.one;have HC:=Hh (fun x (b:Below w.heap.size w x)=>chgC x _ vC f.cards hs.1 hs.2.2.1 (Zn.below h1 b));have HP:=Hh (fun x (b:Below w.heap.size w x)=>chgP x _ vP f.places hs.2.1 hs.2.2.2 (Zn.below h2 b));have O1:=Hh o1;clear e1 hn hw hx e2 e2' hn2 hw2 hx2 e3 h1 h2 hd o1;have T:=Hh (Env.start w);go_enter Tryz.func13,Tryz.ntmps13;go_wp2_with(first
 |((with_reducible refine Zd 1 ?_);refine Zo T.out 26 _ ([vC,vP]) rfl rfl rfl ?_;intro wn g1 tn;have T:=Hh tn;clear tn)
 |((with_reducible refine Zd 2 ?_);refine Zc T.out 26 ([.slice none 0 0,.slice none 0 0]) rfl rfl z_fiS ?_;intro wn g2 tn;have T:=Hh tn;clear tn;have i1:g1<wn.heap.size:=Zf.inside (T.out.get 0 rfl);have i2:g2<wn.heap.size:=Zf.inside (T.out.get 1 rfl);have I12:=Hh (And.intro i1 (And.intro i2 (T.out.below.size)));clear i1 i2;have c0:wn.cell? ⟨g1,0,none⟩=some vC:=(T.out.get 0 rfl).read 0)
 |(go_at_call 35;refine(HC.out _ T.out.below).mono ?_;rintro e w1 ⟨uC,rfl,oC,rC,b1⟩;have T:=Hh (T.out.call b1);have RC:=Hh rC;have OC:=Hh oC;clear rC oC b1)
 |((with_reducible refine Zg 6 5 ?_);refine Zj 23 _ _ 26 g1 0 [] vC uC [vP] (T.out.get 0 rfl) rfl size_casS OC.out rfl rfl rfl rfl rfl ?_;intro w2 p;have p:Put w1 w2 g1 26 [uC,vP]:=p;have RC:=Hh (RC.out.keep p.keeps I12.out.1);have T:=Hh (T.out.put 0 rfl p);clear p;have c1:w2.cell? ⟨g1,1,none⟩=some vP:=(T.out.get 0 rfl).read 1)
 |(go_at_call 37;refine(HP.out _ T.out.below).mono ?_;rintro e w3 ⟨uP,rfl,oP,rP,b3⟩;have RC:=Hh (RC.out.keep (g:=g1) (Zq.of_below b3) I12.out.1);have j1:g1<w2.heap.size:=Zf.inside (T.out.get 0 rfl);have j2:g2<w2.heap.size:=Zf.inside (T.out.get 1 rfl);have J12:=Hh (And.intro j1 (And.intro j2 (T.out.below.size)));clear j1 j2;have T:=Hh (T.out.call b3);have RP:=Hh rP;have OP:=Hh oP;clear rP oP b3)
 |((with_reducible refine Zg 10 9 ?_);refine Zj 24 _ _ 26 g1 1 [uC] vP uP [] (T.out.get 0 rfl) rfl size_plsS OP.out rfl rfl rfl rfl rfl ?_;intro w4 p;have p:Put w3 w4 g1 26 [uC,uP]:=p;have RC:=Hh (RC.out.keep p.keeps I12.out.1);have RP:=Hh (RP.out.keep p.keeps J12.out.1);have T:=Hh (T.out.put 0 rfl p);clear p)
 |((with_reducible refine Zd 11 ?_);refine Zb 26 _ 26 g1 [uC,uP] (T.out.get 0 rfl) row_fiS Zfr rfl rfl rfl ?_)
 |((with_reducible refine Zg 2 11 ?_);refine Za 26 _ _ 26 g2 _ ([uC,uP]) (T.out.get 1 rfl) rfl Zfr (by intro v hv;rcases List.mem_cons.1 hv with rfl | hv;exact OC.out;cases List.mem_singleton.1 hv;exact OP.out) rfl rfl rfl rfl rfl ?_;intro w5 p;have RC:=Hh (RC.out.keep p.keeps I12.out.2.1);have RP:=Hh (RP.out.keep p.keeps J12.out.2.1);have T:=Hh (T.out.put 1 rfl p);clear p;have d0:w5.cell? ⟨g2,0,none⟩=some uC:=(T.out.get 1 rfl).read 0;have d1:w5.cell? ⟨g2,1,none⟩=some uP:=(T.out.get 1 rfl).read 1))
 refine bodyPost_ret (v:=.agg #[uC,uP]) (by simp[results,Tryz.results13,go_sem,d0,d1]) rfl ?_;exact⟨uC,uP,rfl,⟨OC.out,OP.out⟩,RC.out.le I12.out.2.2,RP.out.le J12.out.2.2,T.out.below⟩
end Go.Proofs.YtdngkgickbaboaaGreat
