/- Parts of the proof. No conditions but those that each names. -/
import Derived.Deep.RegionWith
import Derived.Deep.DeepCutAuto
import Derived.Deep.RegionHeld3
import Derived.StillTailTactics
import Derived.Test.YtdngkgickbaboaaGreatQF14
set_option maxRecDepth 20000
set_option maxHeartbeats 12800000
set_option linter.unusedVariables false
set_option linter.unusedSimpArgs false
namespace Go.Proofs.YtdngkgickbaboaaGreat
open Go.Value renaming int→I,slice→Λ,pointer→Ω,string→Ψ,oneCell'→Γ
open Go.IntKind renaming i64→J
open _root_.Go.Proofs.Tryz renaming prog→Φ
open Nat renaming le_refl→Θ
open Nat renaming le_trans→Ξ
open _root_.ByteArray renaming size_append→Δ
open And renaming intro→ζ
open Go.Ending renaming returned→η
open Go.ChangeShapes Go.WideShapes Go.ChangeAt Go.RowKit
theorem exprs_all:∀ n m:Nat,m≤n→ExprOK m∧ProdOK m∧FactOK m:=by
 intro n;induction n with
 |zero=>
  intro m hm;obtain rfl:m=0:=by omega
  exact⟨fun w q c r K L st h hn _=>absurd hn (by omega),fun w q c r K L st h hn _=>absurd hn (by omega),fun w q c r K L st h hn _=>absurd hn (by omega)⟩
 |succ n ih=>
  intro m hm;by_cases e:m≤n
  ·exact ih m e
  ·obtain rfl:m=n+1:=by omega
   exact⟨xexpr n fun k hk=>(ih k hk).2.1,xproduct n fun k hk=>(ih k hk).2.2,xfact n (ih n (Θ _)).1⟩
theorem xexprs(w:World)(q c r K:Nat)(L:List TokV)(st:St)(n:Nat)(h:PAt w q c r K L st)(hn:4*Zw L st+3≤n)(hLn:Zw L st≤68719476736) :
 Calls Φ 43 #[Ω (some ⟨q,0,none⟩)] w (Zac w q c r K L (Yh 5 L n st).2 (Yh 5 L n st).1.ds):=(exprs_all n n (Θ _)).1 w q c r K L st h hn hLn
def Zfb(cop:Int)(cl cr:List Value):List Value:=I J cop::(cl++cr)
def Xa(k l c:Int)(sel num:List Value)(sd tk tl how:Int)(nm:ByteArray)(cop:Int)(cl cr:List Value)(thn els:Value):List Value:=
 I J k::I J l::I J c::(sel++(num++(I J sd::I J tk::I J tl::I J how::Ψ nm::I J cop::(cl++(cr++[thn,els])))))
def AH.dsr(h:AH)(tn:Nat)(t:Ds)(en:Nat)(e:Ds):Ds:=
 .int h.kind (.int h.line (.int h.col (h.sel.ds.app (h.num.ds.app (.int h.side (.int h.tk (.int h.tl (.int h.how (.str h.name (.int h.cop (h.cl.ds.app (h.cr.ds.app (.row tn t (.row en e .nil))))))))))))))
def Acs.ds:Acs→Ds
 |.nil=>.nil
 |.cons h t e r=>(h.dsr t.len t.ds e.len e.ds).app r.ds
theorem AH.dsr_len(h:AH)(tn:Nat)(t:Ds)(en:Nat)(e:Ds):(h.dsr tn t en e).len=53:=by
 simp only[AH.dsr,Ds.len,Ds.len_app,Ex.ds_len,Se.ds_len]
theorem Xv{N:Nat→Prop}{w:World}(k l c sd tk tl how cop:Int)(nm:ByteArray){s:Se}{e x y:Ex}{sel num cl cr:List Value}(h1:Zt N w s.ds sel)(h2:Zt N w e.ds num)(h3:Zt N w x.ds cl)(h4:Zt N w y.ds cr)
  {tn en:Nat}{t u:Ds}{thn els:Value}(h5:Zt N w (.row tn t .nil) [thn])(h6:Zt N w (.row en u .nil) [els]) :
  Zt N w ((⟨k,l,c,s,e,sd,tk,tl,how,nm,cop,x,y⟩:AH).dsr tn t en u) (Xa k l c sel num sd tk tl how nm cop cl cr thn els):=by
 have h7:Zt N w (.row tn t (.row en u .nil)) [thn,els]:=Zt.app (x:=.row tn t .nil) h6 h5;have a2:=Zt.app (Zt.app h7 h4) h3;have a3:Zt N w (.int sd (.int tk (.int tl (.int how (.str nm (.int cop (x.ds.app (y.ds.app (.row tn t (.row en u .nil)))))))))) (I J sd::I J tk::I J tl::I J how::Ψ nm::I J cop::(cl++(cr++[thn,els]))):=⟨_,rfl,_,rfl,_,rfl,_,rfl,_,rfl,_,rfl,a2⟩
 exact⟨_,rfl,_,rfl,_,rfl,Zt.app (Zt.app a3 h2) h1⟩
theorem Yn(N:Nat→Prop)(w:World):Zt N w (.row 0 .nil .nil) [Λ none 0 0]:=⟨none,0,[],[],rfl,⟨Nat.zero_le _,Θ _⟩,.inl rfl,rfl,rfl⟩
theorem Wn:(Tryz.prog.underlying 58).map TypeDesc.isRow=some true:=by kernel_rfl
theorem size_act:(Tryz.prog.info? 58).map (·.size)=some 53:=by kernel_rfl
theorem Xe{vs:List Value}(h:vs.length=53):(Tryz.prog.info? 58).map (·.size)=some vs.length:=by rw[h];exact size_act
theorem Zgs:(Tryz.prog.info? 44).map (·.size)=some 1:=by kernel_rfl
def zexL:List Value:=[I J 0,I J 0,I J 0,I J 0,I J 0,I J 0,Λ none 0 0,I J 0,I J 0,I J 0,I J 0,Λ none 0 0]
def zseL:List Value:=[I J 0,I J 0,I J 0,I J 0,Λ none 0 0,I J 0]
def Jq:List Value:=Xa 0 0 0 zseL zexL 0 0 0 0 ⟨#[]⟩ 0 zexL zexL (Λ none 0 0) (Λ none 0 0)
theorem Ya(N:Nat→Prop)(w:World):Zt N w zEx.ds zexL:=zEx_deep N w
theorem Jp(N:Nat→Prop)(w:World):Zt N w zSe.ds zseL:=Wb N w
section
variable {P:Program} {ops:Array Oper} {rest:List Oper} {o:Oper} {a:Act} {w:World} {Q:Exit→Act→World→Prop}
theorem Zhs(T:TypeId)(x y:Operand)(t:TypeId)(g:Nat){k l c:Int}{sel num:List Value}{sd tk tl how:Int}{nm:ByteArray}{cop:Int}{cl cr:List Value}{thn els:Value}{ys:List Value}(hW:Ze w g t (Xa k l c sel num sd tk tl how nm cop cl cr thn els).toArray)(e1:sel.length=6)(hy1:ys.length=6)(hi:(P.info? T).map (·.size)=some 6)(h1:∀ v ∈ ys,v.oneCell'=true)
  (hgd:o.guard=none)(ho:o.op=.store T x y)(hd:o.dst=none)(hx:a.eval x=Ω (some ⟨g,3,none⟩))(hy:a.eval y=.agg ys.toArray)
  (h:∀ w',Put w w' g t (Xa k l c ys num sd tk tl how nm cop cl cr thn els)→wpList P ops Q rest a w'):wpList P ops Q (o::rest) a w:=
 Xo T x y t g 3 ([I J k,I J l,I J c]) (sel) (num++([I J sd,I J tk,I J tl,I J how,Ψ nm,I J cop]++(cl++(cr++[thn,els])))) ys (by simpa[Xa,Zfb]using hW) (by simp[hy1,e1]) (by simp[e1]) (by rw[hy1];exact hi) h1 hgd ho hd hx hy
  fun w' p=>h w' ⟨by simpa[Xa,Zfb]using p.whole,p.keeps⟩
theorem Zlq(T:TypeId)(x y:Operand)(t:TypeId)(g:Nat){k l c:Int}{sel num:List Value}{sd tk tl how:Int}{nm:ByteArray}{cop:Int}{cl cr:List Value}{thn els:Value}{ys:List Value}(hW:Ze w g t (Xa k l c sel num sd tk tl how nm cop cl cr thn els).toArray)(e1:sel.length=6)(e2:num.length=12)(hy1:ys.length=12)(hi:(P.info? T).map (·.size)=some 12)(h1:∀ v ∈ ys,v.oneCell'=true)
  (hgd:o.guard=none)(ho:o.op=.store T x y)(hd:o.dst=none)(hx:a.eval x=Ω (some ⟨g,9,none⟩))(hy:a.eval y=.agg ys.toArray)
  (h:∀ w',Put w w' g t (Xa k l c sel ys sd tk tl how nm cop cl cr thn els)→wpList P ops Q rest a w'):wpList P ops Q (o::rest) a w:=
 Xo T x y t g 9 ([I J k,I J l,I J c]++sel) (num) ([I J sd,I J tk,I J tl,I J how,Ψ nm,I J cop]++(cl++(cr++[thn,els]))) ys (by simpa[Xa,Zfb]using hW) (by simp[hy1,e1,e2]) (by simp[e1,e2]) (by rw[hy1];exact hi) h1 hgd ho hd hx hy
  fun w' p=>h w' ⟨by simpa[Xa,Zfb]using p.whole,p.keeps⟩
theorem Zou(T:TypeId)(x y:Operand)(t:TypeId)(g:Nat){k l c:Int}{sel num:List Value}{sd tk tl how:Int}{nm:ByteArray}{cop:Int}{cl cr:List Value}{thn els:Value}{v:Int}(hW:Ze w g t (Xa k l c sel num sd tk tl how nm cop cl cr thn els).toArray)(e1:sel.length=6)(e2:num.length=12)(hi:(P.info? T).map (·.size)=some 1)(h1:(I J v:Value).oneCell'=true)
  (hgd:o.guard=none)(ho:o.op=.store T x y)(hd:o.dst=none)(hx:a.eval x=Ω (some ⟨g,21,none⟩))(hy:a.eval y=I J v)
  (h:∀ w',Put w w' g t (Xa k l c sel num v tk tl how nm cop cl cr thn els)→wpList P ops Q rest a w'):wpList P ops Q (o::rest) a w:=
 Zm T x y t g 21 ([I J k,I J l,I J c]++sel++num) (I J sd) (I J v) ([I J tk,I J tl,I J how,Ψ nm,I J cop]++(cl++(cr++[thn,els]))) (by simpa[Xa]using hW) (by simp[e1,e2]) hi h1 hgd ho hd hx hy
  fun w' p=>h w' ⟨by simpa[Xa]using p.whole,p.keeps⟩
theorem put_how(T:TypeId)(x y:Operand)(t:TypeId)(g:Nat){k l c:Int}{sel num:List Value}{sd tk tl how:Int}{nm:ByteArray}{cop:Int}{cl cr:List Value}{thn els:Value}{v:Int}(hW:Ze w g t (Xa k l c sel num sd tk tl how nm cop cl cr thn els).toArray)(e1:sel.length=6)(e2:num.length=12)(hi:(P.info? T).map (·.size)=some 1)(h1:(I J v:Value).oneCell'=true)
  (hgd:o.guard=none)(ho:o.op=.store T x y)(hd:o.dst=none)(hx:a.eval x=Ω (some ⟨g,24,none⟩))(hy:a.eval y=I J v)
  (h:∀ w',Put w w' g t (Xa k l c sel num sd tk tl v nm cop cl cr thn els)→wpList P ops Q rest a w'):wpList P ops Q (o::rest) a w:=
 Zm T x y t g 24 ([I J k,I J l,I J c]++sel++num++[I J sd,I J tk,I J tl]) (I J how) (I J v) ([Ψ nm,I J cop]++(cl++(cr++[thn,els]))) (by simpa[Xa]using hW) (by simp[e1,e2]) hi h1 hgd ho hd hx hy
  fun w' p=>h w' ⟨by simpa[Xa]using p.whole,p.keeps⟩
theorem put_nm(T:TypeId)(x y:Operand)(t:TypeId)(g:Nat){k l c:Int}{sel num:List Value}{sd tk tl how:Int}{nm:ByteArray}{cop:Int}{cl cr:List Value}{thn els:Value}{v:ByteArray}(hW:Ze w g t (Xa k l c sel num sd tk tl how nm cop cl cr thn els).toArray)(e1:sel.length=6)(e2:num.length=12)(hi:(P.info? T).map (·.size)=some 1)(h1:(Ψ v:Value).oneCell'=true)
  (hgd:o.guard=none)(ho:o.op=.store T x y)(hd:o.dst=none)(hx:a.eval x=Ω (some ⟨g,25,none⟩))(hy:a.eval y=Ψ v)
  (h:∀ w',Put w w' g t (Xa k l c sel num sd tk tl how v cop cl cr thn els)→wpList P ops Q rest a w'):wpList P ops Q (o::rest) a w:=
 Zm T x y t g 25 ([I J k,I J l,I J c]++sel++num++[I J sd,I J tk,I J tl,I J how]) (Ψ nm) (Ψ v) ([I J cop]++(cl++(cr++[thn,els]))) (by simpa[Xa]using hW) (by simp[e1,e2]) hi h1 hgd ho hd hx hy
  fun w' p=>h w' ⟨by simpa[Xa]using p.whole,p.keeps⟩
theorem put_to(T:TypeId)(x y:Operand)(t:TypeId)(g:Nat){k l c:Int}{sel num:List Value}{sd tk tl how:Int}{nm:ByteArray}{cop:Int}{cl cr:List Value}{thn els:Value}{u v:Int}(hW:Ze w g t (Xa k l c sel num sd tk tl how nm cop cl cr thn els).toArray)(e1:sel.length=6)(e2:num.length=12)(hi:(P.info? T).map (·.size)=some 2)
  (hgd:o.guard=none)(ho:o.op=.store T x y)(hd:o.dst=none)(hx:a.eval x=Ω (some ⟨g,22,none⟩))(hy:a.eval y=.agg #[I J u,I J v])
  (h:∀ w',Put w w' g t (Xa k l c sel num sd u v how nm cop cl cr thn els)→wpList P ops Q rest a w'):wpList P ops Q (o::rest) a w:=
 Xo T x y t g 22 ([I J k,I J l,I J c]++sel++num++[I J sd]) ([I J tk,I J tl]) ([I J how,Ψ nm,I J cop]++(cl++(cr++[thn,els]))) [I J u,I J v] (by simpa[Xa]using hW) rfl (by simp[e1,e2]) hi (by simp[Γ]) hgd ho hd hx hy
  fun w' p=>h w' ⟨by simpa[Xa]using p.whole,p.keeps⟩
theorem put_thn(T:TypeId)(x y:Operand)(t:TypeId)(g:Nat){k l c:Int}{sel num:List Value}{sd tk tl how:Int}{nm:ByteArray}{cop:Int}{cl cr:List Value}{thn els:Value}{v:Value}(hW:Ze w g t (Xa k l c sel num sd tk tl how nm cop cl cr thn els).toArray)(e1:sel.length=6)(e2:num.length=12)(e3:cl.length=12)(e4:cr.length=12)(hi:(P.info? T).map (·.size)=some 1)(h1:(v:Value).oneCell'=true)
  (hgd:o.guard=none)(ho:o.op=.store T x y)(hd:o.dst=none)(hx:a.eval x=Ω (some ⟨g,51,none⟩))(hy:a.eval y=v)
  (h:∀ w',Put w w' g t (Xa k l c sel num sd tk tl how nm cop cl cr v els)→wpList P ops Q rest a w'):wpList P ops Q (o::rest) a w:=
 Zm T x y t g 51 ([I J k,I J l,I J c]++sel++num++[I J sd,I J tk,I J tl,I J how,Ψ nm,I J cop]++cl++cr) (thn) (v) ([els]) (by simpa[Xa]using hW) (by simp[e1,e2,e3,e4]) hi h1 hgd ho hd hx hy
  fun w' p=>h w' ⟨by simpa[Xa]using p.whole,p.keeps⟩
theorem put_els(T:TypeId)(x y:Operand)(t:TypeId)(g:Nat){k l c:Int}{sel num:List Value}{sd tk tl how:Int}{nm:ByteArray}{cop:Int}{cl cr:List Value}{thn els:Value}{v:Value}(hW:Ze w g t (Xa k l c sel num sd tk tl how nm cop cl cr thn els).toArray)(e1:sel.length=6)(e2:num.length=12)(e3:cl.length=12)(e4:cr.length=12)(hi:(P.info? T).map (·.size)=some 1)(h1:(v:Value).oneCell'=true)
  (hgd:o.guard=none)(ho:o.op=.store T x y)(hd:o.dst=none)(hx:a.eval x=Ω (some ⟨g,52,none⟩))(hy:a.eval y=v)
  (h:∀ w',Put w w' g t (Xa k l c sel num sd tk tl how nm cop cl cr thn v)→wpList P ops Q rest a w'):wpList P ops Q (o::rest) a w:=
 Zm T x y t g 52 ([I J k,I J l,I J c]++sel++num++[I J sd,I J tk,I J tl,I J how,Ψ nm,I J cop]++cl++cr++[thn]) (els) (v) ([]) (by simpa[Xa]using hW) (by simp[e1,e2,e3,e4]) hi h1 hgd ho hd hx hy
  fun w' p=>h w' ⟨by simpa[Xa]using p.whole,p.keeps⟩
end
open Go Go.RowKit Go.Great
theorem Zfc.reads{N:Nat→Prop}{w:World}{A:Option Addr}{xs:List Value}(h:Zfc N w A xs)(hx:0<xs.length):∃ g,A=some ⟨g,0,none⟩∧g<w.heap.size∧∀ j,j<xs.length→w.cell? ⟨g,j,none⟩=xs[j]?:=by
 rcases h with h | ⟨g,e,_,h2,h3⟩
 ·rw[h]at hx;cases hx
 ·exact⟨g,e,h2,h3⟩
theorem Zt.inRow{N:Nat→Prop}{w:World}{n:Nat}{ds:Ds}{v:Value}(h:Zt N w (.row n ds .nil) [v]):∃ A c xs,v=Λ A n c∧(n≤9223372036854775807∧n≤c)∧Zfc N w A xs∧Zt N w ds xs:=by
 obtain⟨A,c,xs,t,e,hn,hw,hd,_⟩:=h;injection e with e1 e2;exact⟨A,c,xs,e1,hn,hw,hd⟩
theorem Zt.inRow1{N:Nat→Prop}{w:World}{n:Nat}{ds:Ds}{vs:List Value}(h:Zt N w (.row n ds .nil) vs):∃ A c xs,vs=[Λ A n c]∧(n≤9223372036854775807∧n≤c)∧Zfc N w A xs∧Zt N w ds xs:=by
 obtain⟨A,c,xs,t,e,hn,hw,hd,ht⟩:=h;have ht:t=[]:=ht;exact⟨A,c,xs,by rw[e,ht],hn,hw,hd⟩
def Fl.vals(f:Fl):List Value:=[I J f.kind,I J f.op,I J f.n,Ψ f.name]
theorem fls_at{N:Nat→Prop}{w:World}:∀{l:List Fl}{xs:List Value},Zt N w (Zis l) xs→∀(k:Nat)(hk:k<l.length)(j:Nat),j<4→xs[k*4+j]?=(l[k]'hk).vals[j]?:=by
 intro l;induction l with
 |nil=>intro xs _ k hk;cases hk
 |cons f l ih=>
  intro xs h k hk j hj;obtain⟨_,rfl,_,rfl,_,rfl,xs,rfl,h⟩:=h;cases k with
  |zero=>
   rcases(show j=0∨j=1∨j=2∨j=3 by omega)with rfl | rfl | rfl | rfl<;>rfl
  |succ k=>
   have:=ih h k (by simpa using hk) j hj;rw[show(k+1)*4+j=(k*4+j)+4 by omega];simpa using this
theorem fls_len{N:Nat→Prop}{w:World}:∀{l:List Fl}{xs:List Value},Zt N w (Zis l) xs→xs.length=l.length*4:=by
 intro l;induction l with
 |nil=>intro xs h;cases h;rfl
 |cons f l ih=>
  intro xs h;obtain⟨_,rfl,_,rfl,_,rfl,xs,rfl,h⟩:=h;have:=ih h;simp only[List.length_cons];omega
def Acs.at?:Acs→Nat→Option (AH×Acs×Acs)
 |.nil,_=>none
 |.cons h t e _,0=>some (h,t,e)
 |.cons _ _ _ r,n+1=>r.at? n
theorem Acs.at_some:∀(x:Acs)(k:Nat),k<x.len→∃ u,x.at? k=some u
 |.nil,k,h=>absurd h (Nat.not_lt_zero k)
 |.cons h t e r,0,_=>⟨(h,t,e),rfl⟩
 |.cons h t e r,k+1,hk=>Acs.at_some r k (Nat.lt_of_succ_lt_succ hk)
theorem Acs.at_lt:∀(x:Acs)(k:Nat)(u:AH×Acs×Acs),x.at? k=some u→SizeOf.sizeOf u.2.1<SizeOf.sizeOf x∧SizeOf.sizeOf u.2.2<SizeOf.sizeOf x
 |.nil,k,u,h=>by cases h
 |.cons h t e r,0,u,hu=>by cases hu;simp only[Acs.cons.sizeOf_spec];omega
 |.cons h t e r,k+1,u,hu=>by have:=Acs.at_lt r k u hu;simp only[Acs.cons.sizeOf_spec];omega
theorem acs_at{N:Nat→Prop}{w:World}:∀{l:Acs}{xs:List Value},Zt N w l.ds xs→∀(k:Nat)(u:AH×Acs×Acs),l.at? k=some u→∃ pre ys post,xs=pre++ys++post∧pre.length=k*53∧Zt N w (u.1.dsr u.2.1.len u.2.1.ds u.2.2.len u.2.2.ds) ys:=by
 intro l;induction l with
 |nil=>intro xs _ k u hu;cases hu
 |cons f t e r _ _ ih=>
  intro xs h k u hu;obtain⟨a,b,rfl,ha,hb⟩:=Zt.split (x:=f.dsr t.len t.ds e.len e.ds) h;cases k with
  |zero=>cases hu;exact⟨[],a,b,rfl,by simp,ha⟩
  |succ k=>
   obtain⟨pre,ys,post,rfl,hp,hy⟩:=ih hb k u hu;refine⟨a++pre,ys,post,by simp,?_,hy⟩;rw[List.length_append,ha.len,AH.dsr_len,hp];omega
theorem Zhg{w:World}{g sz:Nat}{pre ys post:List Value}(hc:∀ j,j<(pre++ys++post).length→w.cell? ⟨g,j,none⟩=(pre++ys++post)[j]?){k:Nat}(hp:pre.length=k*sz):w.rangeAt g (k*sz) ys:=fun j v hv=>by
 have hj:j<ys.length:=by rcases Nat.lt_or_ge j ys.length with h | h;exact h;rw[List.getElem?_eq_none h]at hv;cases hv
 have:=hc (k*sz+j) (by simp;omega);rw[this,←hp,List.append_assoc,List.getElem?_append_right (by omega),Nat.add_sub_cancel_left,List.getElem?_append_left hj,hv]
theorem act_at{N:Nat→Prop}{w:World}{A:Option Addr}{l:Acs}{xs:List Value}(hw:Zfc N w A xs)(hd:Zt N w l.ds xs){k:Nat}{u:AH×Acs×Acs}(hu:l.at? k=some u) :
  ∃ g ys,A=some ⟨g,0,none⟩∧g<w.heap.size∧w.rangeAt g (k*53) ys∧Zt N w (u.1.dsr u.2.1.len u.2.1.ds u.2.2.len u.2.2.ds) ys:=by
 obtain⟨pre,ys,post,rfl,hp,hy⟩:=acs_at hd k u hu;have hl:ys.length=53:=by rw[hy.len,AH.dsr_len]
 obtain⟨g,hA,hg,hc⟩:=hw.reads (by simp;omega);exact⟨g,ys,hA,hg,Zhg hc hp,hy⟩
theorem act_of{N:Nat→Prop}{w:World}{h:AH}{tn en:Nat}{t e:Ds}{ys:List Value}(hd:Zt N w (h.dsr tn t en e) ys) :
  ∃ sel num cl cr thn els,ys=Xa h.kind h.line h.col sel num h.side h.tk h.tl h.how h.name h.cop cl cr thn els∧Zt N w h.sel.ds sel∧Zt N w h.num.ds num∧Zt N w h.cl.ds cl∧Zt N w h.cr.ds cr∧Zt N w (.row tn t .nil) [thn]∧Zt N w (.row en e .nil) [els]:=by
 obtain⟨_,rfl,_,rfl,_,rfl,k1⟩:=hd;obtain⟨sel,_,rfl,h1,k2⟩:=Zt.split (x:=h.sel.ds) k1;obtain⟨num,_,rfl,h2,k3⟩:=Zt.split (x:=h.num.ds) k2;obtain⟨_,rfl,_,rfl,_,rfl,_,rfl,_,rfl,_,rfl,k4⟩:=k3;obtain⟨cl,_,rfl,h3,k5⟩:=Zt.split (x:=h.cl.ds) k4;obtain⟨cr,_,rfl,h4,k6⟩:=Zt.split (x:=h.cr.ds) k5;obtain⟨a,b,rfl,h5,h6⟩:=Zt.split (x:=.row tn t .nil) k6;obtain⟨A,c,xs,rfl,_⟩:=id h5.inRow1;obtain⟨B,d,zs,rfl,_⟩:=id h6.inRow1;exact⟨sel,num,cl,cr,_,_,by simp[Xa],h1,h2,h3,h4,h5,h6⟩
theorem actV_at{k l c sd tk tl how cop:Int}{nm:ByteArray}{sel num cl cr:List Value}{thn els:Value}(e1:sel.length=6)(e2:num.length=12)(e3:cl.length=12)(e4:cr.length=12) :
  (Xa k l c sel num sd tk tl how nm cop cl cr thn els)[0]?=some (I J k)∧(Xa k l c sel num sd tk tl how nm cop cl cr thn els)[1]?=some (I J l)∧(Xa k l c sel num sd tk tl how nm cop cl cr thn els)[2]?=some (I J c) ∧
  (Xa k l c sel num sd tk tl how nm cop cl cr thn els)[21]?=some (I J sd)∧(Xa k l c sel num sd tk tl how nm cop cl cr thn els)[22]?=some (I J tk)∧(Xa k l c sel num sd tk tl how nm cop cl cr thn els)[23]?=some (I J tl) ∧
  (Xa k l c sel num sd tk tl how nm cop cl cr thn els)[24]?=some (I J how)∧(Xa k l c sel num sd tk tl how nm cop cl cr thn els)[25]?=some (Ψ nm)∧(Xa k l c sel num sd tk tl how nm cop cl cr thn els)[26]?=some (I J cop) ∧
  (Xa k l c sel num sd tk tl how nm cop cl cr thn els)[51]?=some thn∧(Xa k l c sel num sd tk tl how nm cop cl cr thn els)[52]?=some els:=by
 simp only[Xa];refine⟨?_,?_,?_,?_,?_,?_,?_,?_,?_,?_,?_⟩<;>simp[List.getElem?_append,e1,e2,e3,e4]
theorem Zfs:(Tryz.prog.info? 58).map (fun i=>i.zero.map Value.cells)=some (some Jq.toArray):=by kernel_rfl
def Zpx(l:List Fl):List ByteArray:=l.flatMap kFl
def Zkg(s:Se):List ByteArray:=
 if s.kind=1∨s.kind=2 then [wd Yo s.kind]else [⟨#[40]⟩]++[wd Zg s.side,wd Zz s.wh]++(if s.wh=3 then [Xf s.lane]else [])++Zpx s.fs++[wd Wo s.pick,⟨#[41]⟩]
theorem sel_one(B:Nat)(w:World)(b:Nat)(a v:Value)(st:List Int×Bool)(k sd wh ln pk:Int)(fv:Value)(hk:k=1∨k=2)(h:Zbc 121 [.bool st.2] B w b a v st.1)(hB:B≤w.heap.size)(hl:st.1.length+Vc [wd Yo k]≤10000000000) :
  Calls Φ 77 #[Ω (some ⟨b,0,none⟩),.agg #[I J k,I J sd,I J wh,I J ln,fv,I J pk]] w (Zka B w b v (Zs st [wd Yo k])):=by
 have R0:=Hh (PrR.start h 49 [I J k,I J sd,I J wh,I J ln,fv,I J pk]);have R1:=Hh (R0.out.next (Zj _ (.cells (Zek Yo) 9)));have HL:=Hh hl;have hk3:(k != 3)=true:=by rcases hk with rfl | rfl<;>decide
 have k1:1≤k:=by omega
 have k2:k≤3:=by omega
 clear h hl hk;go_enter Tryz.func77,Tryz.ntmps77;go_wp2_with(first
 |(go_at_call 87;refine(uWordL (w.alloc (.cells #[I J k,I J sd,I J wh,I J ln,fv,I J pk] 49)) k (w.heap.size+1) 3 3 Yo (by simp) rfl k1 k2 (by decide)).mono ?_;rintro e w1 ⟨rfl,rfl⟩)
 |(go_at_call 56;refine(Zmq B ((w.alloc (.cells #[I J k,I J sd,I J wh,I J ln,fv,I J pk] 49)).alloc (.cells (Zek Yo) 9)) b a v st [wd Yo k] (w.heap.size+1+1) 1 1 R1.out.bd (Ξ hB R1.out.step.keeps.size) HL.out (by simp) (by simp) rfl).mono ?_;rintro e w7 ⟨rfl,a7,v7,h7,s7⟩
   have H7:=Hh (R1.out.write h7 s7);have q0:w7.cell? ⟨w.heap.size,0,none⟩=some (I J k):=by rw[H7.out.box.read];rfl
   clear h7 s7))
 refine bodyPost_ret (v:=.tuple #[]) (by simp[results,Tryz.results77,go_sem]) rfl ?_;exact⟨rfl,a7,v7,H7.out.bd,H7.out.step⟩
open Go.Great Go.ChangeShapes Go.WideShapes Go.ChangeAt Go.RowKit
structure PE(w0:World)(b:Nat)(st:List Int×Bool)(own:List Bk)(x:World):Prop where
 ex:∃ a v:Value,Env w0 ((b,121,[a,v,.bool st.2])::own) [⟨v,5,1,st.1.length,st.1.map (Value.int .u8)⟩] [] x∧(a=Ω none∨a=Ω (some ⟨b,0,none⟩))
def Zib(w0:World)(b:Nat)(st:List Int×Bool)(own:List Bk)(e:Ending)(y:World):Prop:=e=η (.tuple #[])∧PE w0 b st own y
section
variable {w0 x y:World} {b:Nat} {st:List Int×Bool} {own:List Bk}
theorem PE.perm{own2:List Bk}(h:PE w0 b st own x)(p:own.Perm own2):PE w0 b st own2 x:=by
 obtain⟨a,v,h,u⟩:=h;exact⟨a,v,h.perm (p.cons _),u⟩
theorem PE.box(h:PE w0 b st own x)(t:TypeId)(vs:List Value):PE w0 b st ((x.heap.size,t,vs)::own) (x.alloc (.cells vs.toArray t)):=by
 obtain⟨a,v,h,u⟩:=h;refine⟨a,v,(h.box t vs).perm ?_,u⟩;exact(List.perm_append_singleton _ own).cons _
theorem PE.call(h:PE w0 b st own x)(hb:Below x.heap.size x y):PE w0 b st own y:=by
 obtain⟨a,v,h,u⟩:=h;exact⟨a,v,h.call hb,u⟩
theorem PE.drew(h:PE w0 b st own x):PE w0 b st own x.drew:=h.call ⟨rfl,rfl,rfl,Θ _,fun _ _=>rfl⟩
theorem PE.drewN(h:PE w0 b st own x)(n:Nat):PE w0 b st own (x.drewN n):=h.call ⟨rfl,rfl,rfl,Θ _,fun _ _=>rfl⟩
theorem PE.get(h:PE w0 b st own x)(i:Nat){g:Nat}{t:TypeId}{vs:List Value}(hi:own[i]?=some (g,t,vs)):Ze x g t vs.toArray:=by
 obtain⟨a,v,h,u⟩:=h;exact h.get (i+1) (by simpa using hi)
theorem PE.cell(h:PE w0 b st own x)(i n:Nat){g:Nat}{t:TypeId}{vs:List Value}{v:Value}(hi:own[i]?=some (g,t,vs))(hv:vs[n]?=some v):x.cell? ⟨g,n,none⟩=some v:=by
 rw[(h.get i hi).read n,List.getElem?_toArray,hv]
theorem PE.put(h:PE w0 b st own x)(i:Nat){g:Nat}{t:TypeId}{old ys:List Value}(hi:own[i]?=some (g,t,old))(p:Put x y g t ys):PE w0 b st (own.set i (g,t,ys)) y:=by
 obtain⟨a,v,h,u⟩:=h;exact⟨a,v,h.put (i+1) (by simpa using hi) p,u⟩
theorem PE.tail{p:Bk}(h:PE w0 b st (p::own) x):PE w0 b st own x:=by
 obtain⟨a,v,h,u⟩:=h;have h2:=h.perm (cs:=((b,121,[a,v,.bool st.2])::own)++[p]) ((List.perm_append_singleton p own).symm.cons _);exact⟨a,v,Env.less (ts:=[]) (us:=[]) h2,u⟩
theorem PE.below(h:PE w0 b st own x):Below w0.heap.size w0 x:=by
 obtain⟨a,v,h,u⟩:=h;exact h.below
theorem PE.inside(h:PE w0 b st own x)(i:Nat){g:Nat}{t:TypeId}{vs:List Value}(hi:own[i]?=some (g,t,vs)):g<x.heap.size:=(h.get i hi).inside
theorem PE.print{P:Program}{f:Nat}{args:Array Value}{st2:List Int×Bool}{x2:World}(h:PE w0 b st own x)
  (hc:∀ a v,Zbc 121 [.bool st.2] w0.heap.size x b a v st.1→w0.heap.size≤x.heap.size→Calls P f args x2 (Zka w0.heap.size x b v st2)):Calls P f args x2 (Zib w0 b st2 own):=by
 obtain⟨a,v,h,u⟩:=h;have h0:(b,121,[a,v,.bool st.2]) ∈ (b,121,[a,v,Value.bool st.2])::own:=by simp
 have hr:=h.row _ (List.mem_singleton.2 rfl);have ha:=h.apart _ (List.mem_singleton.2 rfl);have hb:Zbc 121 [.bool st.2] w0.heap.size x b a v st.1:=⟨h.at_ _ h0,hr,h.lo _ h0,ha _ h0,u⟩
 refine(hc a v hb h.below.size).mono ?_;rintro e y ⟨rfl,a2,v2,h2,s2⟩;have hn:=List.nodup_cons.1 h.nod;refine⟨rfl,a2,v2,⟨fun c hc=>?_,fun c hc=>?_,h.nod,fun r hr=>?_,fun r hr c hc=>?_,List.pairwise_singleton _ _,(fun _ h=>nomatch h),?_⟩,h2.used⟩
 ·rcases List.mem_cons.1 hc with rfl | hc
  ·exact h2.whole
  ·refine s2.keeps.whole (h.at_ c (List.mem_cons_of_mem _ hc)) fun q=>?_
   rcases q with q | q
   ·exact hn.1 (List.mem_map.2 ⟨c,hc,q⟩)
   ·exact ha c (List.mem_cons_of_mem _ hc) q
 ·rcases List.mem_cons.1 hc with rfl | hc
  ·have:=h.lo _ h0;exact this
  ·exact h.lo c (List.mem_cons_of_mem _ hc)
 ·cases List.mem_singleton.1 hr;exact h2.row
 ·cases List.mem_singleton.1 hr
  rcases List.mem_cons.1 hc with rfl | hc
  ·exact h2.far
  ·intro q
   rcases s2.fresh _ q with q | q
   ·exact ha c (List.mem_cons_of_mem _ hc) q
   ·have:=(h.at_ c (List.mem_cons_of_mem _ hc)).inside;omega
 ·exact h.below.trans (s2.keeps.below h.below.size fun k q=>by
   rcases q with rfl | q
   ·exact h.lo _ h0
   ·exact(hr.lt k q).1)
variable {P:Program} {ops:Array Oper} {rest:List Oper} {o:Oper} {a:Act} {Q:Exit→Act→World→Prop}
theorem Yp(h:PE w0 b st own x)(t:TypeId)(v:Operand)(vs:List Value)(hg:o.guard=none)(ho:o.op=.box t v)(hv:a.eval v=.agg vs.toArray)
  (hn:∀ y g,PE w0 b st ((g,t,vs)::own) y→wpList P ops Q rest (a.put o.dst (Ω (some ⟨g,0,none⟩))) y):wpList P ops Q (o::rest) a x:=
 wpList_boxTo hg t v ho o.dst rfl x.heap.size rfl vs.toArray (by rw[hv];rfl) (hn _ _ (h.box t vs))
theorem Vx(h:PE w0 b st own x)(t:TypeId)(vs:List Value)(hg:o.guard=none)(ho:o.op=.alloc t)(hz:(P.info? t).map (fun i=>i.zero.map Value.cells)=some (some vs.toArray))
  (hn:∀ y g,PE w0 b st ((g,t,vs)::own) y→wpList P ops Q rest (a.put o.dst (Ω (some ⟨g,0,none⟩))) y):wpList P ops Q (o::rest) a x:=by
 obtain⟨i,hi,hzz⟩:=Option.map_eq_some_iff.1 hz;obtain⟨z,hz1,hz2⟩:=Option.map_eq_some_iff.1 hzz;refine wpList_runTo hg o.dst rfl (Ω (some ⟨x.heap.size,0,none⟩)) (x.alloc (.cells vs.toArray t)) ?_ (hn _ _ (h.box t vs));unfold execOp;rw[ho];simp[Instr.alloc,zeroValue,typeInfo,hi,hz1,newVar,newRow,hz2,Sem.run_bind,Sem.run_pure,run_newObj_alloc]
end
def Yw(st:List Int×Bool)(k:List ByteArray):Prop:=st.1.length+Vc k≤10000000000
theorem Yw.app{st:List Int×Bool}{k l:List ByteArray}(h:Yw st (k++l)):Yw st k∧Yw (Zs st k) l:=by
 unfold Yw at *;rw[Xu]at h;have:=Zlp k st;omega
theorem Yw.first{st:List Int×Bool}{k l:List ByteArray}(h:Yw st (k++l)):Yw st k:=h.app.1
theorem Yw.next{st:List Int×Bool}{k l:List ByteArray}(h:Yw st (k++l)):Yw (Zs st k) l:=h.app.2
section
variable {w0 x:World} {b:Nat} {st:List Int×Bool} {own:List Bk}
theorem pPut(h:PE w0 b st own x)(ts:List ByteArray)(q n c:Nat)(hr:Yw st ts)(ht:ts.length≤1000)(hq:q=x.heap.size)(hn:n=ts.length) :
  Calls Φ 56 #[Ω (some ⟨b,0,none⟩),Λ (some ⟨q,0,none⟩) n c] (x.alloc (.cells (Zek ts) 9)) (Zib w0 b (Zs st ts) own):=
 h.print fun a v hb hB=>Zmq _ x b a v st ts q n c hb hB hr ht hq hn
theorem pFilter(h:PE w0 b st own x)(f:Fl)(hv:VFl f)(hr:Yw st (kFl f)) :
  Calls Φ 100 #[Ω (some ⟨b,0,none⟩),.agg #[I J f.kind,I J f.op,I J f.n,Ψ f.name]] x (Zib w0 b (Zs st (kFl f)) own):=
 h.print fun a v hb hB=>prFilter _ x b a v st f hv hb hB hr
end
section
variable {w0 x:World} {b:Nat} {st:List Int×Bool} {own:List Bk}
theorem Zgg(h:PE w0 b st own x)(k:Int)(q n c:Nat)(L:List ByteArray)(hq:q=x.heap.size)(hn:n=L.length)(h1:1≤k)(h2:k≤L.length)(h3:L.length≤1000) :
  Calls Φ 87 #[I J k,Λ (some ⟨q,0,none⟩) n c] (x.alloc (.cells (Zek L) 9)) fun e y=>e=η (Ψ (wd L k))∧PE w0 b st own y:=
 (uWordL x k q n c L hq hn h1 h2 h3).mono fun e y ⟨he,hw⟩=>⟨he,hw ▸ h.call (Zj _ _)⟩
theorem Zie(h:PE w0 b st own x)(k:Int)(h1:1≤k)(h2:k≤3):Calls Φ 78 #[I J k] x fun e y=>e=η (Ψ (wd Zg k))∧PE w0 b st own y:=
 (uSide k x h1 h2).mono fun e y ⟨he,hb⟩=>⟨he,h.call hb⟩
theorem vqOp(h:PE w0 b st own x)(k:Int)(h1:1≤k)(h2:k≤6):Calls Φ 136 #[I J k] x fun e y=>e=η (Ψ (wd wOp k))∧PE w0 b st own y:=
 (uOp k x h1 h2).mono fun e y ⟨he,hb⟩=>⟨he,h.call hb⟩
theorem vqNum(h:PE w0 b st own x)(n:Int)(h1 : -99≤n)(h2:n≤99):Calls Φ 58 #[I J n] x fun e y=>e=η (Ψ (Xf n))∧PE w0 b st own y:=
 (dPut_any n (by omega) (by omega) x).mono fun e y ⟨he,hb⟩=>⟨he,h.call hb⟩
theorem vqName(h:PE w0 b st own x)(s:ByteArray)(hs:s.size≤10000000000):Calls Φ 57 #[Ψ s] x fun e y=>e=η (Ψ (qN s))∧PE w0 b st own y:=
 (uName s x hs).mono fun e y ⟨he,hb⟩=>⟨he,hb ▸ h⟩
theorem Wh{s2:List Int×Bool}{ts:List ByteArray}(e:s2=Zs st ts)(r:Yw st ts)(ht:ts.length≤1000)(own:List Bk)(x:World)(q n c:Nat)(h:PE w0 b st own x)(hq:q=x.heap.size)(hn:n=ts.length) :
  Calls Φ 56 #[Ω (some ⟨b,0,none⟩),Λ (some ⟨q,0,none⟩) n c] (x.alloc (.cells (Zek ts) 9)) (Zib w0 b s2 own):=by
 subst e;exact pPut h ts q n c r ht hq hn
end
def Xz(w0:World)(f:Nat)(arg:Value)(K:List ByteArray):Prop:=∀(b:Nat)(st:List Int×Bool)(own:List Bk)(x:World),PE w0 b st own x→Yw st K →
 Calls Φ f #[Ω (some ⟨b,0,none⟩),arg] x (Zib w0 b (Zs st K) own)
theorem Xz.at_{w0:World}{f:Nat}{arg:Value}{K:List ByteArray}(h:Xz w0 f arg K){b:Nat}{s1 s2:List Int×Bool}(e:s2=Zs s1 K)(r:Yw s1 K)(own:List Bk)(x:World)(hp:PE w0 b s1 own x) :
  Calls Φ f #[Ω (some ⟨b,0,none⟩),arg] x (Zib w0 b s2 own):=by
 subst e;exact h b s1 own x hp r
theorem Ze.nthQ{w:World}{g:Nat}{t:TypeId}{l:List Value}(h:Ze w g t l.toArray)(i:Nat){v:Value}(hv:l[i]?=some v):w.cell? ⟨g,i,none⟩=some v:=by
 rw[h.read,List.getElem?_toArray];exact hv
section
variable {P:Program} {ops:Array Oper} {rest:List Oper} {o:Oper} {a:Act} {w:World} {Q:Exit→Act→World→Prop}
theorem Zr(T:TypeId)(x:Operand)(g n:Nat)(vs:List Value)(hR:w.rangeAt g n vs)
  (hu:(P.underlying T).map TypeDesc.isRow=some true)(hi:(P.info? T).map (·.size)=some vs.length)
  (hgd:o.guard=none)(ho:o.op=.load T x)(hx:a.eval x=Ω (some ⟨g,n,none⟩))
  (h:wpList P ops Q rest (a.put o.dst (.agg vs.toArray)) w):wpList P ops Q (o::rest) a w:=by
 obtain⟨d,hu,hr⟩:=Option.map_eq_some_iff.1 hu;exact wpList_load_mid hgd T x ho g n hx vs d hR hu hr hi h
end
theorem Xl{P:Program}{md:Region.Mode}{ops:Array Oper}{Q:Exit→Act→World→Prop}{S:World→Prop}{i k:Nat}{oi:Oper}{v:Value}{fuel:Nat}{listed:Array Bool}{l:List Value}{d:List Deferred}{w:World}(hi:ops[i]?=some oi)(hd:oi.dst=some k)
  (hs:Region.noSelect ops=true)(hf:Region.free md ops listed i=true)(hr:(Region.ready md ops listed).contains i=true)
  (hQ:∀ c a w,Q (.panic c) (a.put oi.dst v) w→Q (.panic c) a w)(hy:YieldsIf P ops S oi v ⟨l.toArray,d⟩)(hS:S w)
  (h:wpAnyH P md ops Q S fuel (listed.setIfInBounds i true) ⟨(l.set k v).toArray,d⟩ w):wpAnyH P md ops Q S (fuel+1) listed ⟨l.toArray,d⟩ w:=by
 refine wpAnyH_take hi hs hf hr hQ hy hS ?_;rw[hd];simpa[Act.put]using h
theorem qyMove{P:Program}{ops:Array Oper}{S:World→Prop}{o:Oper}{a:Act}{x:Operand}{v:Value}(g:o.guard=none)(ho:o.op=.move x)(e:a.eval x=v):YieldsIf P ops S o v a:=
 .inl ⟨by unfold Region.wanted;rw[g],fun w _=>by unfold execOp;rw[ho];simp[e,Sem.run_pure]⟩
theorem Zeu:(Tryz.prog.underlying 174).map TypeDesc.isRow=some true:=by kernel_rfl
theorem Ua:(Tryz.prog.info? 174).map (·.size)=some 4:=by kernel_rfl
theorem Zfq:(Tryz.prog.underlying 51).map TypeDesc.isRow=some true:=by kernel_rfl
theorem Zdk:(Tryz.prog.info? 51).map (·.size)=some 2:=by kernel_rfl
theorem Vr:(Tryz.prog.underlying 49).map TypeDesc.isRow=some true:=by kernel_rfl
theorem Ve:(Tryz.prog.info? 49).map (·.size)=some 6:=by kernel_rfl
theorem Xm:(Tryz.prog.underlying 54).map TypeDesc.isRow=some true:=by kernel_rfl
theorem Yz:(Tryz.prog.info? 54).map (·.size)=some 12:=by kernel_rfl
theorem qrow_cond:(Tryz.prog.underlying 56).map TypeDesc.isRow=some true:=by kernel_rfl
theorem qsize_cond:(Tryz.prog.info? 56).map (·.size)=some 25:=by kernel_rfl
theorem Znn:(Tryz.prog.underlying 58).map TypeDesc.isRow=some true:=by kernel_rfl
theorem Zin:(Tryz.prog.info? 58).map (·.size)=some 53:=by kernel_rfl
theorem qrow_ru:(Tryz.prog.underlying 46).map TypeDesc.isRow=some true:=by kernel_rfl
theorem Zkv:(Tryz.prog.info? 46).map (·.size)=some 5:=by kernel_rfl
theorem Zjm:(Tryz.prog.underlying 35).map TypeDesc.isRow=some true:=by kernel_rfl
theorem Zdm:(Tryz.prog.info? 35).map (·.size)=some 6:=by kernel_rfl
theorem Zjl:(Tryz.prog.underlying 38).map TypeDesc.isRow=some true:=by kernel_rfl
theorem Zdl:(Tryz.prog.info? 38).map (·.size)=some 4:=by kernel_rfl
theorem Zqg:(Tryz.prog.underlying 26).map TypeDesc.isRow=some true:=by kernel_rfl
theorem Zim:(Tryz.prog.info? 26).map (·.size)=some 2:=by kernel_rfl
theorem qz_fil:(Tryz.prog.info? 174).map (fun i=>i.zero.map Value.cells)=some (some ([I J 0,I J 0,I J 0,Ψ ⟨#[]⟩]:List Value).toArray):=by kernel_rfl
theorem PE.ranges{w0 x:World}{b:Nat}{st:List Int×Bool}{own:List Bk}(h:PE w0 b st own x){g n:Nat}{ys:List Value}(hr:w0.rangeAt g n ys)(hg:g<w0.heap.size):x.rangeAt g n ys:=
 fun j v hv=>(World.cell?_of_block (a:=⟨g,n+j,none⟩) (h.below.block g hg)).trans (hr j v hv)
def kTo(k l:Int):List ByteArray:=[wd wTo k]++(if k=4 then [Xf l]else [])
theorem pTo_4(w0:World)(l:Int)(hl:0≤l∧l≤99):Xz w0 79 (.agg #[I J 4,I J l]) ([wd wTo 4]++([Xf l])):=by
 intro b st own x h hr;obtain⟨s1,E1⟩:∃ s,s=Zs st ([wd wTo 4]):=⟨_,rfl⟩
 have R1:=Hh (Yw.first hr);replace hr:=Yw.next hr;rw[←E1]at hr;obtain⟨s2,E2⟩:∃ s,s=Zs s1 ([Xf l]):=⟨_,rfl⟩
 have R2:=Hh hr;clear hr;have EK:Zs st (([wd wTo 4])++(([Xf l])))=s2:=by simp only[Yl,E1,E2]
 rw[EK];clear EK;have P1:=Hh (fun own x=>Wh (w0:=w0) (b:=b) E1 R1.out (by simp) own x);have P2:=Hh (fun own x=>Wh (w0:=w0) (b:=b) E2 R2.out (by simp) own x);have HE1:=Hh E1;clear E1;have HE2:=Hh E2;clear E2;have T:=Hh h;clear h;go_enter Tryz.func79,Tryz.ntmps79;go_wp2_with(first
 |((with_reducible refine Zd 3 ?_);refine Yp T.out 51 _ ([I J 4,I J l]) rfl rfl rfl ?_;intro wn g0 tn;have T:=Hh tn;clear tn;have c0_0:=T.out.cell 0 0 rfl rfl;have c0_1:=T.out.cell 0 1 rfl rfl)
 |(go_at_call 87;refine(Zgg T.out (4) _ 4 4 wTo rfl rfl (by omega) (by show _≤((4:Nat):Int);omega) (by decide)).mono ?_;rintro e wn ⟨rfl,tn⟩;have T:=Hh tn;clear tn;have c0_0:=T.out.cell 0 0 rfl rfl;have c0_1:=T.out.cell 0 1 rfl rfl)
 |(go_at_call 58;(with_reducible refine(vqNum T.out (l) (by omega) (by omega)).mono ?_);rintro e wn ⟨rfl,tn⟩;have T:=Hh tn;clear tn;have c0_0:=T.out.cell 0 0 rfl rfl;have c0_1:=T.out.cell 0 1 rfl rfl)
 |(go_at_call 56;refine(P1.out _ _ _ _ _ T.out rfl rfl).mono ?_;rintro e wn ⟨rfl,tn⟩;have T:=Hh tn;clear tn;have c0_0:=T.out.cell 0 0 rfl rfl;have c0_1:=T.out.cell 0 1 rfl rfl)
 |(go_at_call 56;refine(P2.out _ _ _ _ _ T.out rfl rfl).mono ?_;rintro e wn ⟨rfl,tn⟩;have T:=Hh tn;clear tn;have c0_0:=T.out.cell 0 0 rfl rfl;have c0_1:=T.out.cell 0 1 rfl rfl))
 go_end0
 exact⟨rfl,T.out.tail⟩
theorem pTo_k(w0:World)(k l:Int)(hk:1≤k∧k≤3):Xz w0 79 (.agg #[I J k,I J l]) ([wd wTo k]):=by
 intro b st own x h hr;obtain⟨s1,E1⟩:∃ s,s=Zs st ([wd wTo k]):=⟨_,rfl⟩
 have R1:=Hh hr;clear hr;have EK:Zs st (([wd wTo k]))=s1:=by simp only[Yl,E1]
 rw[EK];clear EK;have P1:=Hh (fun own x=>Wh (w0:=w0) (b:=b) E1 R1.out (by simp) own x);have HE1:=Hh E1;clear E1;have hk4:(k == 4)=false:=by rw[beq_eq_false_iff_ne];omega
 have T:=Hh h;clear h;go_enter Tryz.func79,Tryz.ntmps79;go_wp2_with(first
 |((with_reducible refine Zd 3 ?_);refine Yp T.out 51 _ ([I J k,I J l]) rfl rfl rfl ?_;intro wn g0 tn;have T:=Hh tn;clear tn;have c0_0:=T.out.cell 0 0 rfl rfl;have c0_1:=T.out.cell 0 1 rfl rfl)
 |(go_at_call 87;refine(Zgg T.out (k) _ 4 4 wTo rfl rfl (by omega) (by show _≤((4:Nat):Int);omega) (by decide)).mono ?_;rintro e wn ⟨rfl,tn⟩;have T:=Hh tn;clear tn;have c0_0:=T.out.cell 0 0 rfl rfl;have c0_1:=T.out.cell 0 1 rfl rfl)
 |(go_at_call 56;refine(P1.out _ _ _ _ _ T.out rfl rfl).mono ?_;rintro e wn ⟨rfl,tn⟩;have T:=Hh tn;clear tn;have c0_0:=T.out.cell 0 0 rfl rfl;have c0_1:=T.out.cell 0 1 rfl rfl))
 go_end0
 exact⟨rfl,T.out.tail⟩
theorem pTo(w0:World)(k l:Int)(hv:VTo k l):Xz w0 79 (.agg #[I J k,I J l]) (kTo k l):=by
 unfold kTo;rcases hv with⟨hk,_⟩ | ⟨rfl,hl⟩
 ·rw[if_neg (by omega)];exact pTo_k w0 k l hk
 ·rw[if_pos rfl];exact pTo_4 w0 l hl
theorem vqWord0(w:World)(k:Nat)(q n c:Nat)(t:ByteArray)(hk:k<n)(hn:n≤1000)(hq:w.cell? ⟨q,k,none⟩=some (Ψ t)) :
  Calls Φ 87 #[I J ((k:Int)+1),Λ (some ⟨q,0,none⟩) n c] w fun e w'=>e=η (Ψ t)∧w=w':=by
 have l1:(1:Int)≤(k:Int)+1:=by omega
 have l2:(k:Int)+1≤(n:Int):=by omega
 have l3:((k:Int)+1 - 1).toNat=k:=by omega
 have l4:(k:Int)<(n:Int):=by omega
 go_enter Tryz.func87,Tryz.ntmps87;go_wp2
 go_ret;exact⟨rfl,rfl⟩
theorem flat_split{α β:Type}(f:α→List β)(l:List α){m:Nat}(h:m<l.length):l.flatMap f=(l.take m).flatMap f++(f (l[m]'h)++(l.drop (m+1)).flatMap f):=by
 conv=>lhs;rw[←List.take_append_drop m l]
 rw[List.flatMap_append,List.drop_eq_getElem_cons h,List.flatMap_cons]
theorem flat_take{α β:Type}(f:α→List β)(l:List α){m:Nat}(h:m<l.length):(l.take (m+1)).flatMap f=(l.take m).flatMap f++f (l[m]'h):=by
 rw[List.take_succ_eq_append_getElem h,List.flatMap_append];simp
def midS{α:Type}(f:α→List ByteArray)(l:List α)(s:List Int×Bool)(m:Nat):List Int×Bool:=Zs s ((l.take m).flatMap f)
theorem midS_end{α:Type}(f:α→List ByteArray)(l:List α)(s:List Int×Bool):midS f l s l.length=Zs s (l.flatMap f):=by unfold midS;rw[List.take_length]
theorem Zoy{α:Type}(f:α→List ByteArray)(l:List α)(s:List Int×Bool){m:Nat}(h:m<l.length):midS f l s (m+1)=Zs (midS f l s m) (f (l[m]'h)):=by
 unfold midS;rw[flat_take f l h,Yl]
theorem Zox{α:Type}{f:α→List ByteArray}{l:List α}{s:List Int×Bool}(r:Yw s (l.flatMap f)){m:Nat}(h:m<l.length):Yw (midS f l s m) (f (l[m]'h)):=by
 rw[flat_split f l h]at r;exact r.next.first
section
variable {w0 x:World} {b:Nat} {st:List Int×Bool} {own:List Bk}
theorem vqSideW(h:PE w0 b st own x){q:Nat}{L:List ByteArray}(hw:Ze x q 9 (Zek L))(k:Int)(h1:1≤k)(h2:k≤3):Calls Φ 78 #[I J k] x fun e y=>e=η (Ψ (wd Zg k))∧PE w0 b st own y∧Ze y q 9 (Zek L):=
 (uSide k x h1 h2).mono fun e y ⟨he,hb⟩=>⟨he,h.call hb,hw.below hb hw.inside⟩
theorem Zjc(h:PE w0 b st own x){q:Nat}{L:List ByteArray}(hw:Ze x q 9 (Zek L))(k:Int)(n c:Nat)(hn:n=L.length)(h1:1≤k)(h2:k≤L.length)(h3:L.length≤1000) :
  Calls Φ 87 #[I J k,Λ (some ⟨q,0,none⟩) n c] x fun e y=>e=η (Ψ (wd L k))∧PE w0 b st own y:=by
 subst hn;obtain⟨j,hj⟩:∃ j:Nat,k=(j:Int)+1:=⟨(k - 1).toNat,by omega⟩
 subst hj;have hjl:j<L.length:=by omega
 have hwd:wd L ((j:Int)+1)=L[j]:=by
  have e:((j:Int)+1).toNat - 1=j:=by omega
  unfold wd;rw[e,List.getElem?_eq_getElem hjl];rfl
 have hc:x.cell? ⟨q,j,none⟩=some (Ψ (wd L ((j:Int)+1))):=by
  rw[hw.read,hwd];simp[Zek,hjl]
 refine(vqWord0 x j q L.length c _ hjl h3 hc).mono ?_;rintro e y ⟨rfl,rfl⟩;exact⟨rfl,h⟩
end
theorem pFilterOK(w0:World)(f:Fl)(hv:VFl f):Xz w0 100 (.agg #[I J f.kind,I J f.op,I J f.n,Ψ f.name]) (kFl f):=fun b st own x h hr=>pFilter h f hv hr
theorem pSel_one(w0:World)(k sd wh ln pk:Int)(fv:Value)(hk:k=1∨k=2):Xz w0 77 (.agg #[I J k,I J sd,I J wh,I J ln,fv,I J pk]) [wd Yo k]:=
 fun b st own x h hr=>h.print fun a v hb hB=>sel_one _ x b a v st k sd wh ln pk fv hk hb hB hr
theorem Zpd{N:Nat→Prop}{w:World}{A:Option Addr}{l:List Fl}{xs:List Value}(hw:Zfc N w A xs)(hd:Zt N w (Zis l) xs){k:Nat}(hk:k<l.length) :
  ∃ g,A=some ⟨g,0,none⟩∧g<w.heap.size∧w.rangeAt g (k*4) [I J (l[k]'hk).kind,I J (l[k]'hk).op,I J (l[k]'hk).n,Ψ (l[k]'hk).name]:=by
 have hl:=fls_len hd;obtain⟨g,hA,hg,hc⟩:=hw.reads (by omega);refine⟨g,hA,hg,fun j v hv=>?_⟩;have hj:j<4:=(List.getElem?_eq_some_iff.1 hv).1;rw[hc _ (by omega),fls_at hd k hk j hj];exact hv
theorem e_open:wd Yo 3=⟨#[40]⟩:=by decide +kernel
theorem pSel_3(w0:World)(N:Nat→Prop)(sd ln pk:Int)(fs:List Fl)(A:Option Addr)(n c:Nat)(xs:List Value)(hw:Zfc N w0 A xs)(hd:Zt N w0 (Zis fs) xs)(hn:n=fs.length)(hm:n≤9223372036854775807)(hfl:∀ f ∈ fs,VFl f)
  (h1:1≤sd)(h2:sd≤3)(h5:0≤ln)(h6:ln≤99)(h7:1≤pk)(h8:pk≤5) :
  Xz w0 77 (.agg #[I J 3,I J sd,I J 3,I J ln,Λ A n c,I J pk]) ([wd Yo 3]++([wd Zg sd,wd Zz 3]++([Xf ln]++(Zpx fs++([wd Wo pk,⟨#[41]⟩]))))):=by
 intro b st own x h hr;obtain⟨s1,E1⟩:∃ s,s=Zs st ([wd Yo 3]):=⟨_,rfl⟩
 have R1:=Hh (Yw.first hr);replace hr:=Yw.next hr;rw[←E1]at hr;obtain⟨s2,E2⟩:∃ s,s=Zs s1 ([wd Zg sd,wd Zz 3]):=⟨_,rfl⟩
 have R2:=Hh (Yw.first hr);replace hr:=Yw.next hr;rw[←E2]at hr;obtain⟨s3,E3⟩:∃ s,s=Zs s2 ([Xf ln]):=⟨_,rfl⟩
 have R3:=Hh (Yw.first hr);replace hr:=Yw.next hr;rw[←E3]at hr;obtain⟨s4,E4⟩:∃ s,s=Zs s3 (Zpx fs):=⟨_,rfl⟩
 have R4:=Hh (Yw.first hr);replace hr:=Yw.next hr;rw[←E4]at hr;obtain⟨s5,E5⟩:∃ s,s=Zs s4 ([wd Wo pk,⟨#[41]⟩]):=⟨_,rfl⟩
 have R5:=Hh hr;clear hr;have EK:Zs st (([wd Yo 3])++(([wd Zg sd,wd Zz 3])++(([Xf ln])++((Zpx fs)++(([wd Wo pk,⟨#[41]⟩]))))))=s5:=by simp only[Yl,E1,E2,E3,E4,E5]
 rw[EK];clear EK;have P1:=Hh (fun own x=>Wh (w0:=w0) (b:=b) E1 R1.out (by simp) own x);have P2:=Hh (fun own x=>Wh (w0:=w0) (b:=b) E2 R2.out (by simp) own x);have P3:=Hh (fun own x=>Wh (w0:=w0) (b:=b) E3 R3.out (by simp) own x);have P5:=Hh (fun own x=>Wh (w0:=w0) (b:=b) E5 R5.out (by simp) own x);have HW:=Hh (ζ hw hd);have HN:=Hh hn;have HF:=Hh hfl;clear hw hd hn hfl;have HE1:=Hh E1;clear E1;have HE2:=Hh E2;clear E2;have HE3:=Hh E3;clear E3;have HE4:=Hh E4;clear E4;have HE5:=Hh E5;clear E5;have T:=Hh h;clear h;have l63:(n:Int)≤9223372036854775807:=by omega
 go_enter Tryz.func77,Tryz.ntmps77;go_upto_region 3 with(first
 |((with_reducible refine Zd 3 ?_);refine Yp T.out 49 _ ([I J 3,I J sd,I J 3,I J ln,Λ A n c,I J pk]) rfl rfl rfl ?_;intro wn g0 tn;have T:=Hh tn;clear tn;have c0_0:=T.out.cell 0 0 rfl rfl;have c0_1:=T.out.cell 0 1 rfl rfl;have c0_2:=T.out.cell 0 2 rfl rfl;have c0_3:=T.out.cell 0 3 rfl rfl;have c0_4:=T.out.cell 0 4 rfl rfl;have c0_5:=T.out.cell 0 5 rfl rfl)
 |(go_at_call 87;refine(Zgg T.out (3) _ 3 3 Yo rfl rfl (by decide) (by decide) (by decide)).mono ?_;rintro e wn ⟨rfl,tn⟩;have T:=Hh tn;clear tn;have c0_0:=T.out.cell 0 0 rfl rfl;have c0_1:=T.out.cell 0 1 rfl rfl;have c0_2:=T.out.cell 0 2 rfl rfl;have c0_3:=T.out.cell 0 3 rfl rfl;have c0_4:=T.out.cell 0 4 rfl rfl;have c0_5:=T.out.cell 0 5 rfl rfl)
 |(go_at_call 56;refine(P1.out _ _ _ _ _ T.out rfl rfl).mono ?_;rintro e wn ⟨rfl,tn⟩;have T:=Hh tn;clear tn;have c0_0:=T.out.cell 0 0 rfl rfl;have c0_1:=T.out.cell 0 1 rfl rfl;have c0_2:=T.out.cell 0 2 rfl rfl;have c0_3:=T.out.cell 0 3 rfl rfl;have c0_4:=T.out.cell 0 4 rfl rfl;have c0_5:=T.out.cell 0 5 rfl rfl))
 go_cut []from 16 to 25 (fun wx=>PE w0 b s2 ((g0,49,[I J 3,I J sd,I J 3,I J ln,Λ A n c,I J pk])::own) wx)
 case first=>
  refine wp_region_held_drew (S:=fun x=>∃ s,PE w0 b s ((g0,49,[I J 3,I J sd,I J 3,I J ln,Λ A n c,I J pk])::own) x) (by kernel_rfl) ⟨_,T.out.drew⟩ (fun hS=>?_);have hP:=T.out.drew;generalize wn.drew=wf at *;refine Xl (i:=0) (v:=Ω (some ⟨b,0,none⟩)) rfl rfl (by kernel_rfl) (by kernel_rfl) (by kernel_rfl) (fun _ _ _ h=>h) (qyMove rfl rfl rfl) hS ?_;try simp only[Qy,Qx]
  refine Xl (i:=1) (v:=Ω (some ⟨g0,1,none⟩)) rfl rfl (by kernel_rfl) (by kernel_rfl) (by kernel_rfl) (fun _ _ _ h=>h) (Or.inl ⟨by rfl,fun y hy=>by go_simp⟩) hS ?_;try simp only[Qy,Qx]
  refine Xl (i:=2) (v:=I J sd) rfl rfl (by kernel_rfl) (by kernel_rfl) (by kernel_rfl) (fun _ _ _ h=>h) (Or.inl ⟨by rfl,fun y hy=>by obtain⟨_,hy⟩:=hy;have c0:=(PE.get hy 0 rfl).read 1;go_simp⟩) hS ?_;try simp only[Qy,Qx]
  refine Xl (i:=4) (v:=Ω (some ⟨g0,2,none⟩)) rfl rfl (by kernel_rfl) (by kernel_rfl) (by kernel_rfl) (fun _ _ _ h=>h) (Or.inl ⟨by rfl,fun y hy=>by go_simp⟩) hS ?_;try simp only[Qy,Qx]
  refine Xl (i:=5) (v:=I J 3) rfl rfl (by kernel_rfl) (by kernel_rfl) (by kernel_rfl) (fun _ _ _ h=>h) (Or.inl ⟨by rfl,fun y hy=>by obtain⟨_,hy⟩:=hy;have c0:=(PE.get hy 0 rfl).read 2;go_simp⟩) hS ?_;try simp only[Qy,Qx]
  refine wpAnyH_ready (rs:=[3,6]) (by kernel_rfl) (by simp) (AllReadyH.cons rfl (fun K hK=>?_) (AllReadyH.cons rfl (fun K hK=>?_) AllReadyH.nil))
  · clear hS
    go_simp;go_at_call 78
    refine(Zie hP sd h1 h2).mono ?_;rintro e wf ⟨rfl,hP2⟩;clear hP;have hP:=hP2;clear hP2;refine hK.out _ _ ⟨_,hP⟩ (fun hS=>?_);clear hK K;try simp only[Act.put,Qz,Qy,Qx]
    refine wpAnyH_ready (rs:=[6]) (by kernel_rfl) (by simp) (AllReadyH.cons rfl (fun K hK=>?_) AllReadyH.nil);clear hS;go_simp;have hP2:=hP.call (Zj wf (.cells #[Ψ ⟨#[104,101,114,101]⟩,Ψ ⟨#[97,119,97,121]⟩,Ψ ⟨#[108,97,110,101]⟩,Ψ ⟨#[97,110,121,119,104,101,114,101]⟩] 9));have hW:Ze (World.alloc wf (.cells #[Ψ ⟨#[104,101,114,101]⟩,Ψ ⟨#[97,119,97,121]⟩,Ψ ⟨#[108,97,110,101]⟩,Ψ ⟨#[97,110,121,119,104,101,114,101]⟩] 9)) wf.heap.size 9 (Zek Zz):=Ze.made _ _ _;obtain⟨q,hq⟩:∃ q,q=wf.heap.size:=⟨_,rfl⟩
    rw[←hq]at hW ⊢;clear hq hP;generalize World.alloc wf (.cells #[Ψ ⟨#[104,101,114,101]⟩,Ψ ⟨#[97,119,97,121]⟩,Ψ ⟨#[108,97,110,101]⟩,Ψ ⟨#[97,110,121,119,104,101,114,101]⟩] 9)=wf at *;have hP:=hP2;clear hP2;refine hK.out _ _ ⟨_,hP⟩ (fun hS=>?_);clear hK K;try simp only[Act.put,Qz,Qy,Qx]
    refine wpAnyH_ready (rs:=[7]) (by kernel_rfl) (by simp) (AllReadyH.cons rfl (fun K hK=>?_) AllReadyH.nil);clear hS;go_simp;go_at_call 87
    refine(Zjc hP hW (3) 4 4 rfl (by decide) (by decide) (by decide)).mono ?_;rintro e wf ⟨rfl,hP2⟩;clear hW;clear hP;have hP:=hP2;clear hP2;refine hK.out _ _ ⟨_,hP⟩ (fun hS=>?_);clear hK K;try simp only[Act.put,Qz,Qy,Qx]
    refine wpAnyH_ready (rs:=[8]) (by kernel_rfl) (by simp) (AllReadyH.cons rfl (fun K hK=>?_) AllReadyH.nil);clear hS;go_simp;refine hK.out _ _ ⟨_,hP.call (Zj wf (.cells #[Ψ (wd Zg sd),Ψ (wd Zz 3)] 9))⟩ (fun hS=>?_);clear hK K;try simp only[Act.put,Qz,Qy,Qx]
    refine wpAnyH_ready (rs:=[9]) (by kernel_rfl) (by simp) (AllReadyH.cons rfl (fun K hK=>?_) AllReadyH.nil);clear hS;go_simp;go_at_call 56
    refine(P2.out _ _ _ _ _ hP rfl rfl).mono ?_;rintro e wf ⟨rfl,hP2⟩;clear hP;have hP:=hP2;clear hP2;refine hK.out _ _ ⟨_,hP⟩ (fun hS=>?_);clear hK K;try simp only[Act.put,Qz,Qy,Qx]
    refine wpAnyH_done (by kernel_rfl) ?_ _;have T:=Hh hP;clear hP hS;go_wp2_with fail
    go_meet
    case rel=>exact T.out
  · clear hS
    go_simp;have hP2:=hP.call (Zj wf (.cells #[Ψ ⟨#[104,101,114,101]⟩,Ψ ⟨#[97,119,97,121]⟩,Ψ ⟨#[108,97,110,101]⟩,Ψ ⟨#[97,110,121,119,104,101,114,101]⟩] 9));have hW:Ze (World.alloc wf (.cells #[Ψ ⟨#[104,101,114,101]⟩,Ψ ⟨#[97,119,97,121]⟩,Ψ ⟨#[108,97,110,101]⟩,Ψ ⟨#[97,110,121,119,104,101,114,101]⟩] 9)) wf.heap.size 9 (Zek Zz):=Ze.made _ _ _;obtain⟨q,hq⟩:∃ q,q=wf.heap.size:=⟨_,rfl⟩
    rw[←hq]at hW ⊢;clear hq hP;generalize World.alloc wf (.cells #[Ψ ⟨#[104,101,114,101]⟩,Ψ ⟨#[97,119,97,121]⟩,Ψ ⟨#[108,97,110,101]⟩,Ψ ⟨#[97,110,121,119,104,101,114,101]⟩] 9)=wf at *;have hP:=hP2;clear hP2;refine hK.out _ _ ⟨_,hP⟩ (fun hS=>?_);clear hK K;try simp only[Act.put,Qz,Qy,Qx]
    refine wpAnyH_ready (rs:=[3]) (by kernel_rfl) (by simp) (AllReadyH.cons rfl (fun K hK=>?_) AllReadyH.nil);clear hS;go_simp;go_at_call 78
    refine(vqSideW hP hW sd h1 h2).mono ?_;rintro e wf ⟨rfl,hP2,hW2⟩;clear hW;have hW:=hW2;clear hW2;clear hP;have hP:=hP2;clear hP2;refine hK.out _ _ ⟨_,hP⟩ (fun hS=>?_);clear hK K;try simp only[Act.put,Qz,Qy,Qx]
    refine wpAnyH_ready (rs:=[7]) (by kernel_rfl) (by simp) (AllReadyH.cons rfl (fun K hK=>?_) AllReadyH.nil);clear hS;go_simp;go_at_call 87
    refine(Zjc hP hW (3) 4 4 rfl (by decide) (by decide) (by decide)).mono ?_;rintro e wf ⟨rfl,hP2⟩;clear hW;clear hP;have hP:=hP2;clear hP2;refine hK.out _ _ ⟨_,hP⟩ (fun hS=>?_);clear hK K;try simp only[Act.put,Qz,Qy,Qx]
    refine wpAnyH_ready (rs:=[8]) (by kernel_rfl) (by simp) (AllReadyH.cons rfl (fun K hK=>?_) AllReadyH.nil);clear hS;go_simp;refine hK.out _ _ ⟨_,hP.call (Zj wf (.cells #[Ψ (wd Zg sd),Ψ (wd Zz 3)] 9))⟩ (fun hS=>?_);clear hK K;try simp only[Act.put,Qz,Qy,Qx]
    refine wpAnyH_ready (rs:=[9]) (by kernel_rfl) (by simp) (AllReadyH.cons rfl (fun K hK=>?_) AllReadyH.nil);clear hS;go_simp;go_at_call 56
    refine(P2.out _ _ _ _ _ hP rfl rfl).mono ?_;rintro e wf ⟨rfl,hP2⟩;clear hP;have hP:=hP2;clear hP2;refine hK.out _ _ ⟨_,hP⟩ (fun hS=>?_);clear hK K;try simp only[Act.put,Qz,Qy,Qx]
    refine wpAnyH_done (by kernel_rfl) ?_ _;have T:=Hh hP;clear hP hS;go_wp2_with fail
    go_meet
    case rel=>exact T.out
 case rest=>
  have T:=Hh hcut;clear hcut;have c0_0:=T.out.cell 0 0 rfl rfl;have c0_1:=T.out.cell 0 1 rfl rfl;have c0_2:=T.out.cell 0 2 rfl rfl;have c0_3:=T.out.cell 0 3 rfl rfl;have c0_4:=T.out.cell 0 4 rfl rfl;have c0_5:=T.out.cell 0 5 rfl rfl;go_wp2_with(first
 |(go_at_call 58;(with_reducible refine(vqNum T.out (ln) (by omega) (by omega)).mono ?_);rintro e wn ⟨rfl,tn⟩;have T:=Hh tn;clear tn;have c0_0:=T.out.cell 0 0 rfl rfl;have c0_1:=T.out.cell 0 1 rfl rfl;have c0_2:=T.out.cell 0 2 rfl rfl;have c0_3:=T.out.cell 0 3 rfl rfl;have c0_4:=T.out.cell 0 4 rfl rfl;have c0_5:=T.out.cell 0 5 rfl rfl)
 |(go_at_call 56;refine(P3.out _ _ _ _ _ T.out rfl rfl).mono ?_;rintro e wn ⟨rfl,tn⟩;have T:=Hh tn;clear tn;have c0_0:=T.out.cell 0 0 rfl rfl;have c0_1:=T.out.cell 0 1 rfl rfl;have c0_2:=T.out.cell 0 2 rfl rfl;have c0_3:=T.out.cell 0 3 rfl rfl;have c0_4:=T.out.cell 0 4 rfl rfl;have c0_5:=T.out.cell 0 5 rfl rfl))
  go_loopw [38] (fun i wr=>∃ m:Nat,i=I J m∧m≤n∧PE w0 b (midS kFl fs s3 m) ((g0,49,[I J 3,I J sd,I J 3,I J ln,Λ A n c,I J pk])::own) wr) (fun i _=>n - (intOf i).toNat)
  case atStart=>exact⟨0,by go_num,Nat.zero_le _,T.out⟩
  case round=>
    obtain⟨m,rfl,hm2,hT⟩:=hrel;have T:=Hh hT;clear hT;by_cases hlt:m<n
    ·have hk1:m<fs.length:=by rw[←HN.out];exact hlt
     obtain⟨g,rfl,hg,hR⟩:=Zpd HW.out.1 HW.out.2 hk1;have F:=(pFilterOK w0 (fs[m]'hk1) (HF.out _ (List.getElem_mem hk1))).at_ (b:=b) (Zoy kFl fs s3 hk1) (Zox R4.out hk1);have HR:=Hh hR;clear hR;generalize fs[m]'hk1=f at *;obtain⟨fk,fo,fn,fnm⟩:=f;dsimp only at F HR;have FF:=Hh F;clear F hk1;have lk:(m:Int)<(n:Int):=by omega
     go_wp2_with(first
 |((with_reducible refine Zd 41 ?_);refine Zr 174 _ g (m*4) ([I J fk,I J fo,I J fn,Ψ fnm]) (T.out.ranges HR.out hg) Zeu Ua rfl rfl rfl ?_)
 |((with_reducible refine Zd 5 ?_);refine Vx T.out 174 _ rfl rfl qz_fil ?_;intro wn g5 tn;have T:=Hh tn;clear tn)
 |((with_reducible refine Zi 5 41 ?_);refine Za 174 _ _ 174 g5 _ ([I J fk,I J fo,I J fn,Ψ fnm]) (T.out.get 0 rfl) rfl Ua (by simp[Γ]) rfl rfl rfl rfl rfl ?_;intro wn p;have T:=Hh (T.out.put 0 rfl p);clear p)
 |((with_reducible refine Zd 43 ?_);refine Zb 174 _ 174 g5 ([I J fk,I J fo,I J fn,Ψ fnm]) (T.out.get 0 rfl) Zeu Ua rfl rfl rfl ?_)
 |(go_at_call 100;refine(FF.out _ _ T.out).mono ?_;rintro e wn ⟨rfl,tn⟩;have T:=Hh tn;clear tn))
     go_roundw
     case rel=>exact⟨m+1,by go_num,by omega,T.out.tail⟩
     case measure=>simp[intOf];omega
    ·have hmn:m=fs.length:=by have:=HN.out;omega
     have T3:PE w0 b s4 ((g0,49,[I J 3,I J sd,I J 3,I J ln,Λ A n c,I J pk])::own) wr:=by
      have:=T.out;rw[hmn,midS_end]at this;rw[HE4.out];exact this
     have T:=Hh T3;clear T3;have lk:¬(m:Int)<(n:Int):=by omega
     clear hmn;have c0_5:=T.out.cell 0 5 rfl rfl;go_wp2_with(first
 |(go_at_call 87;refine(Zgg T.out (pk) _ 5 5 Wo rfl rfl (by omega) (by show _≤((5:Nat):Int);omega) (by decide)).mono ?_;rintro e wn ⟨rfl,tn⟩;have T:=Hh tn;clear tn;have c0_5:=T.out.cell 0 5 rfl rfl)
 |(go_at_call 56;refine(P5.out _ _ _ _ _ T.out rfl rfl).mono ?_;rintro e wn ⟨rfl,tn⟩;have T:=Hh tn;clear tn;have c0_5:=T.out.cell 0 5 rfl rfl))
     go_end0
     exact⟨rfl,T.out.tail⟩
theorem pSel_n(w0:World)(N:Nat→Prop)(sd wh ln pk:Int)(fs:List Fl)(A:Option Addr)(n c:Nat)(xs:List Value)(hw:Zfc N w0 A xs)(hd:Zt N w0 (Zis fs) xs)(hn:n=fs.length)(hm:n≤9223372036854775807)(hfl:∀ f ∈ fs,VFl f)
  (h1:1≤sd)(h2:sd≤3)(h3:1≤wh)(h4:wh≤4)(hw3:wh≠3)(h5:0≤ln)(h6:ln≤99)(h7:1≤pk)(h8:pk≤5) :
  Xz w0 77 (.agg #[I J 3,I J sd,I J wh,I J ln,Λ A n c,I J pk]) ([wd Yo 3]++([wd Zg sd,wd Zz wh]++(Zpx fs++([wd Wo pk,⟨#[41]⟩])))):=by
 intro b st own x h hr;obtain⟨s1,E1⟩:∃ s,s=Zs st ([wd Yo 3]):=⟨_,rfl⟩
 have R1:=Hh (Yw.first hr);replace hr:=Yw.next hr;rw[←E1]at hr;obtain⟨s2,E2⟩:∃ s,s=Zs s1 ([wd Zg sd,wd Zz wh]):=⟨_,rfl⟩
 have R2:=Hh (Yw.first hr);replace hr:=Yw.next hr;rw[←E2]at hr;obtain⟨s3,E3⟩:∃ s,s=Zs s2 (Zpx fs):=⟨_,rfl⟩
 have R3:=Hh (Yw.first hr);replace hr:=Yw.next hr;rw[←E3]at hr;obtain⟨s4,E4⟩:∃ s,s=Zs s3 ([wd Wo pk,⟨#[41]⟩]):=⟨_,rfl⟩
 have R4:=Hh hr;clear hr;have EK:Zs st (([wd Yo 3])++(([wd Zg sd,wd Zz wh])++((Zpx fs)++(([wd Wo pk,⟨#[41]⟩])))))=s4:=by simp only[Yl,E1,E2,E3,E4]
 rw[EK];clear EK;have P1:=Hh (fun own x=>Wh (w0:=w0) (b:=b) E1 R1.out (by simp) own x);have P2:=Hh (fun own x=>Wh (w0:=w0) (b:=b) E2 R2.out (by simp) own x);have P4:=Hh (fun own x=>Wh (w0:=w0) (b:=b) E4 R4.out (by simp) own x);have HW:=Hh (ζ hw hd);have HN:=Hh hn;have HF:=Hh hfl;clear hw hd hn hfl;have HE1:=Hh E1;clear E1;have HE2:=Hh E2;clear E2;have HE3:=Hh E3;clear E3;have HE4:=Hh E4;clear E4;have T:=Hh h;clear h;have l63:(n:Int)≤9223372036854775807:=by omega
 have hb3:(wh == 3)=false:=by rw[beq_eq_false_iff_ne];exact hw3
 go_enter Tryz.func77,Tryz.ntmps77;go_upto_region 3 with(first
 |((with_reducible refine Zd 3 ?_);refine Yp T.out 49 _ ([I J 3,I J sd,I J wh,I J ln,Λ A n c,I J pk]) rfl rfl rfl ?_;intro wn g0 tn;have T:=Hh tn;clear tn;have c0_0:=T.out.cell 0 0 rfl rfl;have c0_1:=T.out.cell 0 1 rfl rfl;have c0_2:=T.out.cell 0 2 rfl rfl;have c0_3:=T.out.cell 0 3 rfl rfl;have c0_4:=T.out.cell 0 4 rfl rfl;have c0_5:=T.out.cell 0 5 rfl rfl)
 |(go_at_call 87;refine(Zgg T.out (3) _ 3 3 Yo rfl rfl (by decide) (by decide) (by decide)).mono ?_;rintro e wn ⟨rfl,tn⟩;have T:=Hh tn;clear tn;have c0_0:=T.out.cell 0 0 rfl rfl;have c0_1:=T.out.cell 0 1 rfl rfl;have c0_2:=T.out.cell 0 2 rfl rfl;have c0_3:=T.out.cell 0 3 rfl rfl;have c0_4:=T.out.cell 0 4 rfl rfl;have c0_5:=T.out.cell 0 5 rfl rfl)
 |(go_at_call 56;refine(P1.out _ _ _ _ _ T.out rfl rfl).mono ?_;rintro e wn ⟨rfl,tn⟩;have T:=Hh tn;clear tn;have c0_0:=T.out.cell 0 0 rfl rfl;have c0_1:=T.out.cell 0 1 rfl rfl;have c0_2:=T.out.cell 0 2 rfl rfl;have c0_3:=T.out.cell 0 3 rfl rfl;have c0_4:=T.out.cell 0 4 rfl rfl;have c0_5:=T.out.cell 0 5 rfl rfl))
 go_cut []from 16 to 25 (fun wx=>PE w0 b s2 ((g0,49,[I J 3,I J sd,I J wh,I J ln,Λ A n c,I J pk])::own) wx)
 case first=>
  refine wp_region_held_drew (S:=fun x=>∃ s,PE w0 b s ((g0,49,[I J 3,I J sd,I J wh,I J ln,Λ A n c,I J pk])::own) x) (by kernel_rfl) ⟨_,T.out.drew⟩ (fun hS=>?_);have hP:=T.out.drew;generalize wn.drew=wf at *;refine Xl (i:=0) (v:=Ω (some ⟨b,0,none⟩)) rfl rfl (by kernel_rfl) (by kernel_rfl) (by kernel_rfl) (fun _ _ _ h=>h) (qyMove rfl rfl rfl) hS ?_;try simp only[Qy,Qx]
  refine Xl (i:=1) (v:=Ω (some ⟨g0,1,none⟩)) rfl rfl (by kernel_rfl) (by kernel_rfl) (by kernel_rfl) (fun _ _ _ h=>h) (Or.inl ⟨by rfl,fun y hy=>by go_simp⟩) hS ?_;try simp only[Qy,Qx]
  refine Xl (i:=2) (v:=I J sd) rfl rfl (by kernel_rfl) (by kernel_rfl) (by kernel_rfl) (fun _ _ _ h=>h) (Or.inl ⟨by rfl,fun y hy=>by obtain⟨_,hy⟩:=hy;have c0:=(PE.get hy 0 rfl).read 1;go_simp⟩) hS ?_;try simp only[Qy,Qx]
  refine Xl (i:=4) (v:=Ω (some ⟨g0,2,none⟩)) rfl rfl (by kernel_rfl) (by kernel_rfl) (by kernel_rfl) (fun _ _ _ h=>h) (Or.inl ⟨by rfl,fun y hy=>by go_simp⟩) hS ?_;try simp only[Qy,Qx]
  refine Xl (i:=5) (v:=I J wh) rfl rfl (by kernel_rfl) (by kernel_rfl) (by kernel_rfl) (fun _ _ _ h=>h) (Or.inl ⟨by rfl,fun y hy=>by obtain⟨_,hy⟩:=hy;have c0:=(PE.get hy 0 rfl).read 2;go_simp⟩) hS ?_;try simp only[Qy,Qx]
  refine wpAnyH_ready (rs:=[3,6]) (by kernel_rfl) (by simp) (AllReadyH.cons rfl (fun K hK=>?_) (AllReadyH.cons rfl (fun K hK=>?_) AllReadyH.nil))
  · clear hS
    go_simp;go_at_call 78
    refine(Zie hP sd h1 h2).mono ?_;rintro e wf ⟨rfl,hP2⟩;clear hP;have hP:=hP2;clear hP2;refine hK.out _ _ ⟨_,hP⟩ (fun hS=>?_);clear hK K;try simp only[Act.put,Qz,Qy,Qx]
    refine wpAnyH_ready (rs:=[6]) (by kernel_rfl) (by simp) (AllReadyH.cons rfl (fun K hK=>?_) AllReadyH.nil);clear hS;go_simp;have hP2:=hP.call (Zj wf (.cells #[Ψ ⟨#[104,101,114,101]⟩,Ψ ⟨#[97,119,97,121]⟩,Ψ ⟨#[108,97,110,101]⟩,Ψ ⟨#[97,110,121,119,104,101,114,101]⟩] 9));have hW:Ze (World.alloc wf (.cells #[Ψ ⟨#[104,101,114,101]⟩,Ψ ⟨#[97,119,97,121]⟩,Ψ ⟨#[108,97,110,101]⟩,Ψ ⟨#[97,110,121,119,104,101,114,101]⟩] 9)) wf.heap.size 9 (Zek Zz):=Ze.made _ _ _;obtain⟨q,hq⟩:∃ q,q=wf.heap.size:=⟨_,rfl⟩
    rw[←hq]at hW ⊢;clear hq hP;generalize World.alloc wf (.cells #[Ψ ⟨#[104,101,114,101]⟩,Ψ ⟨#[97,119,97,121]⟩,Ψ ⟨#[108,97,110,101]⟩,Ψ ⟨#[97,110,121,119,104,101,114,101]⟩] 9)=wf at *;have hP:=hP2;clear hP2;refine hK.out _ _ ⟨_,hP⟩ (fun hS=>?_);clear hK K;try simp only[Act.put,Qz,Qy,Qx]
    refine wpAnyH_ready (rs:=[7]) (by kernel_rfl) (by simp) (AllReadyH.cons rfl (fun K hK=>?_) AllReadyH.nil);clear hS;go_simp;go_at_call 87
    refine(Zjc hP hW (wh) 4 4 rfl h3 (by show _≤((4:Nat):Int);omega) (by decide)).mono ?_;rintro e wf ⟨rfl,hP2⟩;clear hW;clear hP;have hP:=hP2;clear hP2;refine hK.out _ _ ⟨_,hP⟩ (fun hS=>?_);clear hK K;try simp only[Act.put,Qz,Qy,Qx]
    refine wpAnyH_ready (rs:=[8]) (by kernel_rfl) (by simp) (AllReadyH.cons rfl (fun K hK=>?_) AllReadyH.nil);clear hS;go_simp;refine hK.out _ _ ⟨_,hP.call (Zj wf (.cells #[Ψ (wd Zg sd),Ψ (wd Zz wh)] 9))⟩ (fun hS=>?_);clear hK K;try simp only[Act.put,Qz,Qy,Qx]
    refine wpAnyH_ready (rs:=[9]) (by kernel_rfl) (by simp) (AllReadyH.cons rfl (fun K hK=>?_) AllReadyH.nil);clear hS;go_simp;go_at_call 56
    refine(P2.out _ _ _ _ _ hP rfl rfl).mono ?_;rintro e wf ⟨rfl,hP2⟩;clear hP;have hP:=hP2;clear hP2;refine hK.out _ _ ⟨_,hP⟩ (fun hS=>?_);clear hK K;try simp only[Act.put,Qz,Qy,Qx]
    refine wpAnyH_done (by kernel_rfl) ?_ _;have T:=Hh hP;clear hP hS;go_wp2_with fail
    go_meet
    case rel=>exact T.out
  · clear hS
    go_simp;have hP2:=hP.call (Zj wf (.cells #[Ψ ⟨#[104,101,114,101]⟩,Ψ ⟨#[97,119,97,121]⟩,Ψ ⟨#[108,97,110,101]⟩,Ψ ⟨#[97,110,121,119,104,101,114,101]⟩] 9));have hW:Ze (World.alloc wf (.cells #[Ψ ⟨#[104,101,114,101]⟩,Ψ ⟨#[97,119,97,121]⟩,Ψ ⟨#[108,97,110,101]⟩,Ψ ⟨#[97,110,121,119,104,101,114,101]⟩] 9)) wf.heap.size 9 (Zek Zz):=Ze.made _ _ _;obtain⟨q,hq⟩:∃ q,q=wf.heap.size:=⟨_,rfl⟩
    rw[←hq]at hW ⊢;clear hq hP;generalize World.alloc wf (.cells #[Ψ ⟨#[104,101,114,101]⟩,Ψ ⟨#[97,119,97,121]⟩,Ψ ⟨#[108,97,110,101]⟩,Ψ ⟨#[97,110,121,119,104,101,114,101]⟩] 9)=wf at *;have hP:=hP2;clear hP2;refine hK.out _ _ ⟨_,hP⟩ (fun hS=>?_);clear hK K;try simp only[Act.put,Qz,Qy,Qx]
    refine wpAnyH_ready (rs:=[3]) (by kernel_rfl) (by simp) (AllReadyH.cons rfl (fun K hK=>?_) AllReadyH.nil);clear hS;go_simp;go_at_call 78
    refine(vqSideW hP hW sd h1 h2).mono ?_;rintro e wf ⟨rfl,hP2,hW2⟩;clear hW;have hW:=hW2;clear hW2;clear hP;have hP:=hP2;clear hP2;refine hK.out _ _ ⟨_,hP⟩ (fun hS=>?_);clear hK K;try simp only[Act.put,Qz,Qy,Qx]
    refine wpAnyH_ready (rs:=[7]) (by kernel_rfl) (by simp) (AllReadyH.cons rfl (fun K hK=>?_) AllReadyH.nil);clear hS;go_simp;go_at_call 87
    refine(Zjc hP hW (wh) 4 4 rfl h3 (by show _≤((4:Nat):Int);omega) (by decide)).mono ?_;rintro e wf ⟨rfl,hP2⟩;clear hW;clear hP;have hP:=hP2;clear hP2;refine hK.out _ _ ⟨_,hP⟩ (fun hS=>?_);clear hK K;try simp only[Act.put,Qz,Qy,Qx]
    refine wpAnyH_ready (rs:=[8]) (by kernel_rfl) (by simp) (AllReadyH.cons rfl (fun K hK=>?_) AllReadyH.nil);clear hS;go_simp;refine hK.out _ _ ⟨_,hP.call (Zj wf (.cells #[Ψ (wd Zg sd),Ψ (wd Zz wh)] 9))⟩ (fun hS=>?_);clear hK K;try simp only[Act.put,Qz,Qy,Qx]
    refine wpAnyH_ready (rs:=[9]) (by kernel_rfl) (by simp) (AllReadyH.cons rfl (fun K hK=>?_) AllReadyH.nil);clear hS;go_simp;go_at_call 56
    refine(P2.out _ _ _ _ _ hP rfl rfl).mono ?_;rintro e wf ⟨rfl,hP2⟩;clear hP;have hP:=hP2;clear hP2;refine hK.out _ _ ⟨_,hP⟩ (fun hS=>?_);clear hK K;try simp only[Act.put,Qz,Qy,Qx]
    refine wpAnyH_done (by kernel_rfl) ?_ _;have T:=Hh hP;clear hP hS;go_wp2_with fail
    go_meet
    case rel=>exact T.out
 case rest=>
  have T:=Hh hcut;clear hcut;have c0_0:=T.out.cell 0 0 rfl rfl;have c0_1:=T.out.cell 0 1 rfl rfl;have c0_2:=T.out.cell 0 2 rfl rfl;have c0_3:=T.out.cell 0 3 rfl rfl;have c0_4:=T.out.cell 0 4 rfl rfl;have c0_5:=T.out.cell 0 5 rfl rfl;go_wp2_with fail
  go_loopw [38] (fun i wr=>∃ m:Nat,i=I J m∧m≤n∧PE w0 b (midS kFl fs s2 m) ((g0,49,[I J 3,I J sd,I J wh,I J ln,Λ A n c,I J pk])::own) wr) (fun i _=>n - (intOf i).toNat)
  case atStart=>exact⟨0,by go_num,Nat.zero_le _,T.out⟩
  case round=>
    obtain⟨m,rfl,hm2,hT⟩:=hrel;have T:=Hh hT;clear hT;by_cases hlt:m<n
    ·have hk1:m<fs.length:=by rw[←HN.out];exact hlt
     obtain⟨g,rfl,hg,hR⟩:=Zpd HW.out.1 HW.out.2 hk1;have F:=(pFilterOK w0 (fs[m]'hk1) (HF.out _ (List.getElem_mem hk1))).at_ (b:=b) (Zoy kFl fs s2 hk1) (Zox R3.out hk1);have HR:=Hh hR;clear hR;generalize fs[m]'hk1=f at *;obtain⟨fk,fo,fn,fnm⟩:=f;dsimp only at F HR;have FF:=Hh F;clear F hk1;have lk:(m:Int)<(n:Int):=by omega
     go_wp2_with(first
 |((with_reducible refine Zd 41 ?_);refine Zr 174 _ g (m*4) ([I J fk,I J fo,I J fn,Ψ fnm]) (T.out.ranges HR.out hg) Zeu Ua rfl rfl rfl ?_)
 |((with_reducible refine Zd 5 ?_);refine Vx T.out 174 _ rfl rfl qz_fil ?_;intro wn g5 tn;have T:=Hh tn;clear tn)
 |((with_reducible refine Zi 5 41 ?_);refine Za 174 _ _ 174 g5 _ ([I J fk,I J fo,I J fn,Ψ fnm]) (T.out.get 0 rfl) rfl Ua (by simp[Γ]) rfl rfl rfl rfl rfl ?_;intro wn p;have T:=Hh (T.out.put 0 rfl p);clear p)
 |((with_reducible refine Zd 43 ?_);refine Zb 174 _ 174 g5 ([I J fk,I J fo,I J fn,Ψ fnm]) (T.out.get 0 rfl) Zeu Ua rfl rfl rfl ?_)
 |(go_at_call 100;refine(FF.out _ _ T.out).mono ?_;rintro e wn ⟨rfl,tn⟩;have T:=Hh tn;clear tn))
     go_roundw
     case rel=>exact⟨m+1,by go_num,by omega,T.out.tail⟩
     case measure=>simp[intOf];omega
    ·have hmn:m=fs.length:=by have:=HN.out;omega
     have T3:PE w0 b s3 ((g0,49,[I J 3,I J sd,I J wh,I J ln,Λ A n c,I J pk])::own) wr:=by
      have:=T.out;rw[hmn,midS_end]at this;rw[HE3.out];exact this
     have T:=Hh T3;clear T3;have lk:¬(m:Int)<(n:Int):=by omega
     clear hmn;have c0_5:=T.out.cell 0 5 rfl rfl;go_wp2_with(first
 |(go_at_call 87;refine(Zgg T.out (pk) _ 5 5 Wo rfl rfl (by omega) (by show _≤((5:Nat):Int);omega) (by decide)).mono ?_;rintro e wn ⟨rfl,tn⟩;have T:=Hh tn;clear tn;have c0_5:=T.out.cell 0 5 rfl rfl)
 |(go_at_call 56;refine(P4.out _ _ _ _ _ T.out rfl rfl).mono ?_;rintro e wn ⟨rfl,tn⟩;have T:=Hh tn;clear tn;have c0_5:=T.out.cell 0 5 rfl rfl))
     go_end0
     exact⟨rfl,T.out.tail⟩
theorem pSel(w0:World)(N:Nat→Prop)(s:Se)(hv:VSe s)(vs:List Value)(hd:Zt N w0 s.ds vs):Xz w0 77 (.agg vs.toArray) (Zkg s):=by
 obtain⟨k,sd,wh,ln,fs,pk⟩:=s;obtain⟨_,rfl,_,rfl,_,rfl,_,rfl,A,c,xs,_,rfl,hn,hw,hx,_,rfl,rfl⟩:=hd;unfold Zkg;rcases hv with⟨hk,_⟩ | ⟨hk,h1,h2,h3,h4,h5,h6⟩
 ·rw[if_pos hk]
  exact pSel_one w0 k sd wh ln pk _ hk
 ·simp only at hk h1 h2 h3 h4 h5 h6
  subst hk;rw[if_neg (by simp)];by_cases h:wh=3
  ·subst h
   have:=pSel_3 w0 N sd ln pk fs A fs.length c xs hw hx rfl hn.1 h5 h1.1 h1.2 h3.1 h3.2 h6.1 h6.2;rw[e_open]at this;simpa using this
  ·have:=pSel_n w0 N sd wh ln pk fs A fs.length c xs hw hx rfl hn.1 h5 h1.1 h1.2 h2.1 h2.2 h h3.1 h3.2 h6.1 h6.2
   rw[e_open]at this;simpa[h]using this
open Go.ChangeShapes Go.WideShapes Go.ChangeAt Go.RowKit Go.Great
theorem rzFl_size(t:ByteArray)(f:Fl):t.size≤(Znh t f).size∧(f.kind=3→f.name.size≤(Znh t f).size):=by
 unfold Znh
 (repeat' split)<;>simp only[Δ]<;>omega
theorem rzFls_size:∀(l:List Fl)(t:ByteArray),t.size≤(l.foldl Znh t).size
 |[],t=>Θ _
 |f::l,t=>Ξ (rzFl_size t f).1 (rzFls_size l _)
def Zoz(l:List Fl)(t:ByteArray)(m:Nat):ByteArray:=(l.take m).foldl Znh t
theorem midF_next(l:List Fl)(t:ByteArray){m:Nat}(h:m<l.length):Zoz l t (m+1)=Znh (Zoz l t m) (l[m]'h):=by
 unfold Zoz;rw[List.take_succ_eq_append_getElem h,List.foldl_append];rfl
theorem midF_end(l:List Fl)(t:ByteArray):Zoz l t l.length=l.foldl Znh t:=by unfold Zoz;rw[List.take_length]
theorem midF_size(l:List Fl)(t:ByteArray)(m:Nat):(Zoz l t m).size≤(l.foldl Znh t).size:=by
 have h:=rzFls_size (l.drop m) (Zoz l t m);unfold Zoz at *;rw[←List.foldl_append,List.take_append_drop]at h;exact h
theorem Zna:(Tryz.prog.info? 174).map (fun i=>i.zero.map Value.cells)=some (some ([I J 0,I J 0,I J 0,Ψ ⟨#[]⟩]:List Value).toArray):=by kernel_rfl
theorem rz_sel1(k sd wh ln pk:Int)(v:Value)(hk:k=1∨k=2)(w:World)(hv:v.oneCell'=true):Calls Φ 118 #[.agg #[I J k,I J sd,I J wh,I J ln,v,I J pk]] w fun e w'=>e=η (Ψ (if k=1 then⟨#[109,101]⟩else⟨#[105,116]⟩))∧Below w.heap.size w w':=by
 have T:=Hh (Env.start w);rcases hk with rfl | rfl
 all_goals
  go_enter Tryz.func118,Tryz.ntmps118;go_wp2_with((with_reducible refine Zd 1 ?_);refine Zk T.out 49 _ ([I J _,I J sd,I J wh,I J ln,v,I J pk]) rfl rfl rfl ?_;intro wn g0 tn;have T:=Hh tn;clear tn;have c0:=T.out.cell 0 0 rfl rfl)
  go_ret;exact⟨rfl,T.out.below⟩
theorem rz_sel3(w:World)(N:Nat→Prop)(sd wh pk:Nat)(ln:Int)(fs:List Fl)(A:Option Addr)(n c:Nat)(xs:List Value)(hw:Zfc N w A xs)(hd:Zt N w (Zis fs) xs)(hn:n=fs.length)(hn63:n≤9223372036854775807)(hfl:∀ f ∈ fs,VFl f)
  (hs1:1≤sd)(hs3:sd≤3)(hw1:1≤wh)(hw4:wh≤4)(hl0:0≤ln)(hl9:ln≤99)(hp1:1≤pk)(hp5:pk≤5)(B1 F:ByteArray)
  (hB1:B1=if(wh:Int)=3 then(⟨#[40]⟩++wd Zg (sd:Int)++⟨#[32]⟩++wd Zz (wh:Int):ByteArray)++⟨#[32]⟩++Xf ln else(⟨#[40]⟩++wd Zg (sd:Int)++⟨#[32]⟩++wd Zz (wh:Int):ByteArray))(hF:F=fs.foldl Znh B1)(hb:F.size≤10000000000) :
  Calls Φ 118 #[.agg #[I J 3,I J (sd:Int),I J (wh:Int),I J ln,Λ A n c,I J (pk:Int)]] w fun e w'=>e=η (Ψ (F++⟨#[32]⟩++wd Wo (pk:Int)++⟨#[41]⟩))∧Below w.heap.size w w':=by
 have T:=Hh (Env.start w);have i1:(0:Int)≤(sd:Int):=by omega
 have i2:(sd:Int)<4:=by omega
 have i3:(0:Int)≤(wh:Int):=by omega
 have i4:(wh:Int)<5:=by omega
 have i5:(0:Int)≤(pk:Int):=by omega
 have i6:(pk:Int)<6:=by omega
 have l63:(n:Int)≤9223372036854775807:=by omega
 have hN:=Hh hn;have HB1:=Hh hB1;have HF:=Hh (ζ hF hb);have HW:=Hh (ζ hw hd);have HV:=Hh hfl;have hq:=fun x=>Zjg ln x (by omega) (by omega)
 have zq:=Zaw ln (by omega) (by omega);have HQ:=Hh hq;clear hn hB1 hF hb hw hd hfl hq;go_enter Tryz.func118,Tryz.ntmps118;go_upto_region 5 with((with_reducible refine Zd 1 ?_);refine Zk T.out 49 _ ([I J 3,I J (sd:Int),I J (wh:Int),I J ln,Λ A n c,I J (pk:Int)]) rfl rfl rfl ?_;intro wn g0 tn;have T:=Hh tn;clear tn;have c0_0:=T.out.cell 0 0 rfl rfl;have c0_1:=T.out.cell 0 1 rfl rfl;have c0_2:=T.out.cell 0 2 rfl rfl;have c0_3:=T.out.cell 0 3 rfl rfl;have c0_4:=T.out.cell 0 4 rfl rfl;have c0_5:=T.out.cell 0 5 rfl rfl)
 go_cut [3] (fun t wx=>t=Ψ (⟨#[40]⟩++wd Zg (sd:Int)++⟨#[32]⟩++wd Zz (wh:Int):ByteArray)∧Env w [(g0,49,[I J 3,I J (sd:Int),I J (wh:Int),I J ln,Λ A n c,I J (pk:Int)])] [] [] wx)
 case first=>
  clear c0_0 c0_1 c0_2 c0_3 c0_4 c0_5;refine Xg (fun x=>Env w [(g0,49,[I J 3,I J (sd:Int),I J (wh:Int),I J ln,Λ A n c,I J (pk:Int)])] [] [] x) (by kernel_rfl) T.out.drew ?_;have hst:Zdp (fun x=>Env w [(g0,49,[I J 3,I J (sd:Int),I J (wh:Int),I J ln,Λ A n c,I J (pk:Int)])] [] [] x):=fun x y h e=>Env.call h e
  refine AB.tk 1 (Ω (some ⟨g0,1,none⟩)) rfl rfl (by kernel_rfl) (fun _ _ _ h=>h) hst (Zn rfl (fun y hy=>by go_simp)) ?_;simp only[Qy,Qx];refine AB.tk 2 (I J (sd:Int)) rfl rfl (by kernel_rfl) (fun _ _ _ h=>h) hst (Zn rfl (fun y hy=>by have c0:=Env.cell (hy) 0 1 rfl rfl;go_simp)) ?_;simp only[Qy,Qx];refine AB.tk 8 (Ω (some ⟨g0,2,none⟩)) rfl rfl (by kernel_rfl) (fun _ _ _ h=>h) hst (Zn rfl (fun y hy=>by go_simp)) ?_;simp only[Qy,Qx];refine AB.tk 9 (I J (wh:Int)) rfl rfl (by kernel_rfl) (fun _ _ _ h=>h) hst (Zn rfl (fun y hy=>by have c0:=Env.cell (hy) 0 2 rfl rfl;go_simp)) ?_;simp only[Qy,Qx];refine AB.one (i:=0) (by kernel_rfl) (Zeg.some (val:=fun g=>Λ (some ⟨g,0,none⟩) 4 4) (φ :=fun g x=>Ze x g 9 (Zgy.map Value.string).toArray) rfl rfl rfl hst (fun y hy=>by kernel_rfl) (fun y hy=>(Zen y).mono fun e w2 ⟨g,he,hg,hb⟩=>⟨g,he,hg,hb⟩) (fun g x y h e=>Ze.below h e (Ze.inside h)) (fun ga=>?_));simp only[Qy,Qx];refine AB.tk 3 (Ω (some ⟨ga,sd,none⟩)) rfl rfl (by kernel_rfl) (fun _ _ _ h=>h) (hst.and fun x y h e=>Ze.below h e (Ze.inside h)) (Zn rfl (fun y hy=>by go_simp)) ?_;simp only[Qy,Qx];refine AB.tk 4 (Ψ (wd Zg (sd:Int))) rfl rfl (by kernel_rfl) (fun _ _ _ h=>h) (hst.and fun x y h e=>Ze.below h e (Ze.inside h)) (Zn rfl (fun y hy=>by have c0:=Wi (L:=Zg) (hy.2) hs1 hs3;go_simp)) ?_;simp only[Qy,Qx];refine AB.tk 5 (Ψ (⟨#[40]⟩++wd Zg (sd:Int))) rfl rfl (by kernel_rfl) (fun _ _ _ h=>h) (hst.and fun x y h e=>Ze.below h e (Ze.inside h)) (Yi rfl rfl rfl rfl (by(try simp only[Δ]);have z1:=Yr (L:=Zg) (by decide) (sd:Int);have z2:=Yr (L:=Zz) (by decide) (wh:Int);have z3:(⟨#[40]⟩:ByteArray).size=1:=rfl;have z4:(⟨#[32]⟩:ByteArray).size=1:=rfl;omega)) ?_;simp only[Qy,Qx];refine AB.tk 6 (Ψ (⟨#[40]⟩++wd Zg (sd:Int)++⟨#[32]⟩)) rfl rfl (by kernel_rfl) (fun _ _ _ h=>h) (hst.and fun x y h e=>Ze.below h e (Ze.inside h)) (Yi rfl rfl rfl rfl (by(try simp only[Δ]);have z1:=Yr (L:=Zg) (by decide) (sd:Int);have z2:=Yr (L:=Zz) (by decide) (wh:Int);have z3:(⟨#[40]⟩:ByteArray).size=1:=rfl;have z4:(⟨#[32]⟩:ByteArray).size=1:=rfl;omega)) ?_;simp only[Qy,Qx];refine AB.one (i:=7) (by kernel_rfl) (Zeg.some (val:=fun g=>Λ (some ⟨g,0,none⟩) 5 5) (φ :=fun g x=>Ze x g 9 (wWheres.map Value.string).toArray) rfl rfl rfl (hst.and fun x y h e=>Ze.below h e (Ze.inside h)) (fun y hy=>by kernel_rfl) (fun y hy=>(rz_wheres y).mono fun e w2 ⟨g,he,hg,hb⟩=>⟨g,he,hg,hb⟩) (fun g x y h e=>Ze.below h e (Ze.inside h)) (fun gb=>?_));simp only[Qy,Qx];refine AB.tk 10 (Ω (some ⟨gb,wh,none⟩)) rfl rfl (by kernel_rfl) (fun _ _ _ h=>h) ((hst.and fun x y h e=>Ze.below h e (Ze.inside h)).and fun x y h e=>Ze.below h e (Ze.inside h)) (Zn rfl (fun y hy=>by go_simp)) ?_;simp only[Qy,Qx];refine AB.tk 11 (Ψ (wd Zz (wh:Int))) rfl rfl (by kernel_rfl) (fun _ _ _ h=>h) ((hst.and fun x y h e=>Ze.below h e (Ze.inside h)).and fun x y h e=>Ze.below h e (Ze.inside h)) (Zn rfl (fun y hy=>by have c0:=Wi (L:=Zz) (hy.2) hw1 hw4;go_simp)) ?_;simp only[Qy,Qx];refine AB.tk 12 (Ψ (⟨#[40]⟩++wd Zg (sd:Int)++⟨#[32]⟩++wd Zz (wh:Int):ByteArray)) rfl rfl (by kernel_rfl) (fun _ _ _ h=>h) ((hst.and fun x y h e=>Ze.below h e (Ze.inside h)).and fun x y h e=>Ze.below h e (Ze.inside h)) (Yi rfl rfl rfl rfl (by(try simp only[Δ]);have z1:=Yr (L:=Zg) (by decide) (sd:Int);have z2:=Yr (L:=Zz) (by decide) (wh:Int);have z3:(⟨#[40]⟩:ByteArray).size=1:=rfl;have z4:(⟨#[32]⟩:ByteArray).size=1:=rfl;omega)) ?_;simp only[Qy,Qx];refine AB.tk 13 (Ψ (⟨#[40]⟩++wd Zg (sd:Int)++⟨#[32]⟩++wd Zz (wh:Int):ByteArray)) rfl rfl (by kernel_rfl) (fun _ _ _ h=>h) ((hst.and fun x y h e=>Ze.below h e (Ze.inside h)).and fun x y h e=>Ze.below h e (Ze.inside h)) (Zn rfl (fun y hy=>by go_simp)) ?_;simp only[Qy,Qx];refine AB.done (by kernel_rfl) (fun wn hS=>?_);have T:=Hh hS.1.1;clear hS;go_wp2_with fail
  go_meet
  exact⟨rfl,T.out⟩
 case rest=>
  obtain⟨rfl,hT⟩:=hcut;have T:=Hh hT;clear hT;have c0_0:=T.out.cell 0 0 rfl rfl;have c0_1:=T.out.cell 0 1 rfl rfl;have c0_2:=T.out.cell 0 2 rfl rfl;have c0_3:=T.out.cell 0 3 rfl rfl;have c0_4:=T.out.cell 0 4 rfl rfl;have c0_5:=T.out.cell 0 5 rfl rfl;go_upto_if 27 with(fail)
  go_cut [3] (fun t wx=>t=Ψ B1∧Env w [(g0,49,[I J 3,I J (sd:Int),I J (wh:Int),I J ln,Λ A n c,I J (pk:Int)])] [] [] wx)
  case first=>
   have e:=HB1.out;have z0:=Yr (L:=Zg) (by decide) (sd:Int);have z1:=Yr (L:=Zz) (by decide) (wh:Int);by_cases hw3:(wh:Int)=3
   · rw[if_pos hw3]at e
     have b3:((wh:Int) == 3)=true:=by simpa using hw3
     have HE:=Hh e;clear e hw3;go_wp2_with(go_at_call 29;refine(HQ.out _).mono ?_;rintro e wn ⟨rfl,bn⟩;have T:=Hh (T.out.call bn);clear bn)
     go_meet
     exact⟨by rw[HE.out],T.out⟩
   · rw[if_neg hw3]at e
     have b3:((wh:Int) == 3)=false:=by simpa using hw3
     have HE:=Hh e;clear e hw3;go_wp2
     go_meet
     exact⟨by rw[HE.out],T.out⟩
  case rest=>
   obtain⟨rfl,hT⟩:=hcut;have T:=Hh hT;clear hT c0_0 c0_1 c0_2 c0_3 c0_4 c0_5 HB1 HQ zq;have c0_0:=T.out.cell 0 0 rfl rfl;have c0_1:=T.out.cell 0 1 rfl rfl;have c0_2:=T.out.cell 0 2 rfl rfl;have c0_3:=T.out.cell 0 3 rfl rfl;have c0_4:=T.out.cell 0 4 rfl rfl;have c0_5:=T.out.cell 0 5 rfl rfl;go_wp2
   go_loopw [3,4] (fun t i wr=>∃ m:Nat,i=I J m∧m≤n∧t=Ψ (Zoz fs B1 m)∧Env w [(g0,49,[I J 3,I J (sd:Int),I J (wh:Int),I J ln,Λ A n c,I J (pk:Int)])] [] [] wr) (fun _ i _=>n - (intOf i).toNat)
   case atStart=>exact⟨0,by go_num,Nat.zero_le _,rfl,T.out⟩
   case round=>
     obtain⟨m,rfl,hm,rfl,hT⟩:=hrel;have T:=Hh hT;clear hT c0_0 c0_1 c0_2 c0_3 c0_4 c0_5;have c0_0:=T.out.cell 0 0 rfl rfl;have c0_1:=T.out.cell 0 1 rfl rfl;have c0_2:=T.out.cell 0 2 rfl rfl;have c0_3:=T.out.cell 0 3 rfl rfl;have c0_4:=T.out.cell 0 4 rfl rfl;have c0_5:=T.out.cell 0 5 rfl rfl;have hb:=HF.out.2;have hms:=midF_size fs B1 m;rw[←HF.out.1]at hms;have zt:(Zoz fs B1 m).size≤10000000000:=by omega
     clear hms;by_cases hlt:m<n
     ·have hk1:m<fs.length:=by rw[←hN.out];exact hlt
      obtain⟨g,rfl,hg,hR⟩:=Zpd HW.out.1 HW.out.2 hk1;have hnx:=midF_next fs B1 hk1;have hvf:=HV.out _ (List.getElem_mem hk1);have hns:=midF_size fs B1 (m+1);rw[←HF.out.1,hnx]at hns;have hnm:=(rzFl_size (Zoz fs B1 m) (fs[m]'hk1)).2;have HNX:=Hh hnx;have HR:Hid (∀ y,Below w.heap.size w y→y.rangeAt g (m*4) [I J (fs[m]'hk1).kind,I J (fs[m]'hk1).op,I J (fs[m]'hk1).n,Ψ (fs[m]'hk1).name]):=Hh fun y hy j v hv=>(World.cell?_of_block (a:=⟨g,m*4+j,none⟩) (hy.block g hg)).trans (hR j v hv)
      clear hnx hR;generalize Zoz fs B1 m=t at *;generalize fs[m]'hk1=f at *;obtain⟨fk,fo,fn,fm⟩:=f;have lk:(m:Int)<(n:Int):=by omega
      clear hk1;dsimp only at hnm HR hvf hns;rcases(show fk=1∨fk=2∨fk=3∨fk=4∨fk=5 by rcases hvf with h | h | h<;>have:=h.1<;>dsimp only at this<;>omega)with rfl | rfl | rfl | rfl | rfl
      ·have ho:=hvf.resolve_right (by rintro(h | h)<;>have:=h.1<;>dsimp only at this<;>omega)
       obtain⟨op,rfl⟩:∃ op:Nat,fo=op:=⟨fo.toNat,by have:=ho.2.1;dsimp only at this;omega⟩
       have ho1:1≤op:=by have:=ho.2.1;dsimp only at this;omega
       have ho6:op≤6:=by have:=ho.2.1;dsimp only at this;omega
       have hq:=fun x=>Zjg fn x (by have:=ho.2.2.1;dsimp only at this;omega) (by have:=ho.2.2.1;dsimp only at this;omega)
       have zq:=Zaw fn (by have:=ho.2.2.1;dsimp only at this;omega) (by have:=ho.2.2.1;dsimp only at this;omega);have i7:(0:Int)≤(op:Int):=by omega
       have i8:(op:Int)<7:=by omega
       have HQ:=Hh hq;clear ho hvf hns hnm hq;go_upto_region 15 with(first
 |((with_reducible refine Zd 45 ?_);refine Zr 174 _ g (m*4) ([I J 1,I J (op:Int),I J fn,Ψ fm]) (HR.out _ T.out.below) Zeu Ua rfl rfl rfl ?_)
 |((with_reducible refine Zd 5 ?_);refine Zc T.out 174 _ rfl rfl Zna ?_;intro wn g5 tn;have T:=Hh tn;clear tn)
 |((with_reducible refine Zi 5 45 ?_);refine Za 174 _ _ 174 g5 _ ([I J 1,I J (op:Int),I J fn,Ψ fm]) (T.out.get 1 rfl) rfl Ua (by simp[Γ]) rfl rfl rfl rfl rfl ?_;intro wn p;have T:=Hh (T.out.put 1 rfl p);clear p;have c5_0:=T.out.cell 1 0 rfl rfl;have c5_1:=T.out.cell 1 1 rfl rfl;have c5_2:=T.out.cell 1 2 rfl rfl;have c5_3:=T.out.cell 1 3 rfl rfl))
       clear c5_0 c5_1 c5_2 c5_3 c0_0 c0_1 c0_2 c0_3 c0_4 c0_5;have hq:=HQ.out;refine Xg (fun x=>Env w [(g0,49,[I J 3,I J (sd:Int),I J (wh:Int),I J ln,Λ (some ⟨g,0,none⟩) n c,I J (pk:Int)]),(g5,174,[I J 1,I J (op:Int),I J fn,Ψ fm])] [] [] x) (by kernel_rfl) T.out.drew ?_;have hst:Zdp (fun x=>Env w [(g0,49,[I J 3,I J (sd:Int),I J (wh:Int),I J ln,Λ (some ⟨g,0,none⟩) n c,I J (pk:Int)]),(g5,174,[I J 1,I J (op:Int),I J fn,Ψ fm])] [] [] x):=fun x y h e=>Env.call h e
       refine AB.tk 0 (Ψ t) rfl rfl (by kernel_rfl) (fun _ _ _ h=>h) hst (Vn rfl rfl rfl) ?_;simp only[Qy,Qx];refine AB.tk 1 (Ψ (t++⟨#[32,99,111,115,116,32]⟩)) rfl rfl (by kernel_rfl) (fun _ _ _ h=>h) hst (Yi rfl rfl rfl rfl (by(try simp only[Δ]);have z2:=Yr (L:=wOp) (by decide) (op:Int);have z3:((⟨#[32,99,111,115,116,32]⟩:ByteArray)).size≤7:=(by decide);have z4:(⟨#[32]⟩:ByteArray).size=1:=rfl;omega)) ?_;simp only[Qy,Qx];refine AB.tk 3 (Ω (some ⟨g5,1,none⟩)) rfl rfl (by kernel_rfl) (fun _ _ _ h=>h) hst (Zn rfl (fun y hy=>by go_simp)) ?_;simp only[Qy,Qx];refine AB.tk 4 (I J (op:Int)) rfl rfl (by kernel_rfl) (fun _ _ _ h=>h) hst (Zn rfl (fun y hy=>by have c0:=Env.cell (hy) 1 1 rfl rfl;go_simp)) ?_;simp only[Qy,Qx];refine AB.tk 9 (Ω (some ⟨g5,2,none⟩)) rfl rfl (by kernel_rfl) (fun _ _ _ h=>h) hst (Zn rfl (fun y hy=>by go_simp)) ?_;simp only[Qy,Qx];refine AB.tk 10 (I J fn) rfl rfl (by kernel_rfl) (fun _ _ _ h=>h) hst (Zn rfl (fun y hy=>by have c0:=Env.cell (hy) 1 2 rfl rfl;go_simp)) ?_;simp only[Qy,Qx];refine AB.one (i:=2) (by kernel_rfl) (Zeg.some (val:=fun g=>Λ (some ⟨g,0,none⟩) 7 7) (φ :=fun g x=>Ze x g 9 (wOps.map Value.string).toArray) rfl rfl rfl hst (fun y hy=>by kernel_rfl) (fun y hy=>(rz_ops y).mono fun e w2 ⟨g,he,hg,hb⟩=>⟨g,he,hg,hb⟩) (fun g x y h e=>Ze.below h e (Ze.inside h)) (fun ga=>?_));simp only[Qy,Qx];refine AB.tk 5 (Ω (some ⟨ga,op,none⟩)) rfl rfl (by kernel_rfl) (fun _ _ _ h=>h) (hst.and fun x y h e=>Ze.below h e (Ze.inside h)) (Zn rfl (fun y hy=>by go_simp)) ?_;simp only[Qy,Qx];refine AB.tk 6 (Ψ (wd wOp (op:Int))) rfl rfl (by kernel_rfl) (fun _ _ _ h=>h) (hst.and fun x y h e=>Ze.below h e (Ze.inside h)) (Zn rfl (fun y hy=>by have c0:=Wi (L:=wOp) (hy.2) ho1 ho6;go_simp)) ?_;simp only[Qy,Qx];refine AB.tk 7 (Ψ (t++⟨#[32,99,111,115,116,32]⟩++wd wOp (op:Int))) rfl rfl (by kernel_rfl) (fun _ _ _ h=>h) (hst.and fun x y h e=>Ze.below h e (Ze.inside h)) (Yi rfl rfl rfl rfl (by(try simp only[Δ]);have z2:=Yr (L:=wOp) (by decide) (op:Int);have z3:((⟨#[32,99,111,115,116,32]⟩:ByteArray)).size≤7:=(by decide);have z4:(⟨#[32]⟩:ByteArray).size=1:=rfl;omega)) ?_;simp only[Qy,Qx];refine AB.tk 8 (Ψ (t++⟨#[32,99,111,115,116,32]⟩++wd wOp (op:Int)++⟨#[32]⟩)) rfl rfl (by kernel_rfl) (fun _ _ _ h=>h) (hst.and fun x y h e=>Ze.below h e (Ze.inside h)) (Yi rfl rfl rfl rfl (by(try simp only[Δ]);have z2:=Yr (L:=wOp) (by decide) (op:Int);have z3:((⟨#[32,99,111,115,116,32]⟩:ByteArray)).size≤7:=(by decide);have z4:(⟨#[32]⟩:ByteArray).size=1:=rfl;omega)) ?_;simp only[Qy,Qx];refine AB.tk 11 (Ψ (Xf fn)) rfl rfl (by kernel_rfl) (fun _ _ _ h=>h) (hst.and fun x y h e=>Ze.below h e (Ze.inside h)) (Wx.call rfl (fun w=>by kernel_rfl) (fun y hy=>hq y)) ?_;simp only[Qy,Qx];refine AB.tk 12 (Ψ (t++⟨#[32,99,111,115,116,32]⟩++wd wOp (op:Int)++⟨#[32]⟩++Xf fn)) rfl rfl (by kernel_rfl) (fun _ _ _ h=>h) (hst.and fun x y h e=>Ze.below h e (Ze.inside h)) (Yi rfl rfl rfl rfl (by(try simp only[Δ]);have z2:=Yr (L:=wOp) (by decide) (op:Int);have z3:((⟨#[32,99,111,115,116,32]⟩:ByteArray)).size≤7:=(by decide);have z4:(⟨#[32]⟩:ByteArray).size=1:=rfl;omega)) ?_;simp only[Qy,Qx];refine AB.tk 13 (Ψ (t++⟨#[32,99,111,115,116,32]⟩++wd wOp (op:Int)++⟨#[32]⟩++Xf fn)) rfl rfl (by kernel_rfl) (fun _ _ _ h=>h) (hst.and fun x y h e=>Ze.below h e (Ze.inside h)) (Zn rfl (fun y hy=>by go_simp)) ?_;simp only[Qy,Qx];refine AB.done (by kernel_rfl) (fun wn hS=>?_);have T:=Hh hS.1;clear hS;clear hq;go_wp2_with fail
       go_roundw
       case rel=>exact⟨m+1,by go_num,by omega,by rw[HNX.out];rfl,T.out.less (bs:=[_]) (cs:=[_]) (ts:=[]) (us:=[])⟩
       case measure=>simp[intOf];omega
      ·have ho:=hvf.resolve_right (by rintro(h | h)<;>have:=h.1<;>dsimp only at this<;>omega)
       obtain⟨op,rfl⟩:∃ op:Nat,fo=op:=⟨fo.toNat,by have:=ho.2.1;dsimp only at this;omega⟩
       have ho1:1≤op:=by have:=ho.2.1;dsimp only at this;omega
       have ho6:op≤6:=by have:=ho.2.1;dsimp only at this;omega
       have hq:=fun x=>Zjg fn x (by have:=ho.2.2.1;dsimp only at this;omega) (by have:=ho.2.2.1;dsimp only at this;omega)
       have zq:=Zaw fn (by have:=ho.2.2.1;dsimp only at this;omega) (by have:=ho.2.2.1;dsimp only at this;omega);have i7:(0:Int)≤(op:Int):=by omega
       have i8:(op:Int)<7:=by omega
       have HQ:=Hh hq;clear ho hvf hns hnm hq;go_upto_region 17 with(first
 |((with_reducible refine Zd 45 ?_);refine Zr 174 _ g (m*4) ([I J 2,I J (op:Int),I J fn,Ψ fm]) (HR.out _ T.out.below) Zeu Ua rfl rfl rfl ?_)
 |((with_reducible refine Zd 5 ?_);refine Zc T.out 174 _ rfl rfl Zna ?_;intro wn g5 tn;have T:=Hh tn;clear tn)
 |((with_reducible refine Zi 5 45 ?_);refine Za 174 _ _ 174 g5 _ ([I J 2,I J (op:Int),I J fn,Ψ fm]) (T.out.get 1 rfl) rfl Ua (by simp[Γ]) rfl rfl rfl rfl rfl ?_;intro wn p;have T:=Hh (T.out.put 1 rfl p);clear p;have c5_0:=T.out.cell 1 0 rfl rfl;have c5_1:=T.out.cell 1 1 rfl rfl;have c5_2:=T.out.cell 1 2 rfl rfl;have c5_3:=T.out.cell 1 3 rfl rfl))
       clear c5_0 c5_1 c5_2 c5_3 c0_0 c0_1 c0_2 c0_3 c0_4 c0_5;have hq:=HQ.out;refine Xg (fun x=>Env w [(g0,49,[I J 3,I J (sd:Int),I J (wh:Int),I J ln,Λ (some ⟨g,0,none⟩) n c,I J (pk:Int)]),(g5,174,[I J 2,I J (op:Int),I J fn,Ψ fm])] [] [] x) (by kernel_rfl) T.out.drew ?_;have hst:Zdp (fun x=>Env w [(g0,49,[I J 3,I J (sd:Int),I J (wh:Int),I J ln,Λ (some ⟨g,0,none⟩) n c,I J (pk:Int)]),(g5,174,[I J 2,I J (op:Int),I J fn,Ψ fm])] [] [] x):=fun x y h e=>Env.call h e
       refine AB.tk 0 (Ψ t) rfl rfl (by kernel_rfl) (fun _ _ _ h=>h) hst (Vn rfl rfl rfl) ?_;simp only[Qy,Qx];refine AB.tk 1 (Ψ (t++⟨#[32,112,111,119,101,114,32]⟩)) rfl rfl (by kernel_rfl) (fun _ _ _ h=>h) hst (Yi rfl rfl rfl rfl (by(try simp only[Δ]);have z2:=Yr (L:=wOp) (by decide) (op:Int);have z3:((⟨#[32,112,111,119,101,114,32]⟩:ByteArray)).size≤7:=(by decide);have z4:(⟨#[32]⟩:ByteArray).size=1:=rfl;omega)) ?_;simp only[Qy,Qx];refine AB.tk 3 (Ω (some ⟨g5,1,none⟩)) rfl rfl (by kernel_rfl) (fun _ _ _ h=>h) hst (Zn rfl (fun y hy=>by go_simp)) ?_;simp only[Qy,Qx];refine AB.tk 4 (I J (op:Int)) rfl rfl (by kernel_rfl) (fun _ _ _ h=>h) hst (Zn rfl (fun y hy=>by have c0:=Env.cell (hy) 1 1 rfl rfl;go_simp)) ?_;simp only[Qy,Qx];refine AB.tk 9 (Ω (some ⟨g5,2,none⟩)) rfl rfl (by kernel_rfl) (fun _ _ _ h=>h) hst (Zn rfl (fun y hy=>by go_simp)) ?_;simp only[Qy,Qx];refine AB.tk 10 (I J fn) rfl rfl (by kernel_rfl) (fun _ _ _ h=>h) hst (Zn rfl (fun y hy=>by have c0:=Env.cell (hy) 1 2 rfl rfl;go_simp)) ?_;simp only[Qy,Qx];refine AB.one (i:=2) (by kernel_rfl) (Zeg.some (val:=fun g=>Λ (some ⟨g,0,none⟩) 7 7) (φ :=fun g x=>Ze x g 9 (wOps.map Value.string).toArray) rfl rfl rfl hst (fun y hy=>by kernel_rfl) (fun y hy=>(rz_ops y).mono fun e w2 ⟨g,he,hg,hb⟩=>⟨g,he,hg,hb⟩) (fun g x y h e=>Ze.below h e (Ze.inside h)) (fun ga=>?_));simp only[Qy,Qx];refine AB.tk 5 (Ω (some ⟨ga,op,none⟩)) rfl rfl (by kernel_rfl) (fun _ _ _ h=>h) (hst.and fun x y h e=>Ze.below h e (Ze.inside h)) (Zn rfl (fun y hy=>by go_simp)) ?_;simp only[Qy,Qx];refine AB.tk 6 (Ψ (wd wOp (op:Int))) rfl rfl (by kernel_rfl) (fun _ _ _ h=>h) (hst.and fun x y h e=>Ze.below h e (Ze.inside h)) (Zn rfl (fun y hy=>by have c0:=Wi (L:=wOp) (hy.2) ho1 ho6;go_simp)) ?_;simp only[Qy,Qx];refine AB.tk 7 (Ψ (t++⟨#[32,112,111,119,101,114,32]⟩++wd wOp (op:Int))) rfl rfl (by kernel_rfl) (fun _ _ _ h=>h) (hst.and fun x y h e=>Ze.below h e (Ze.inside h)) (Yi rfl rfl rfl rfl (by(try simp only[Δ]);have z2:=Yr (L:=wOp) (by decide) (op:Int);have z3:((⟨#[32,112,111,119,101,114,32]⟩:ByteArray)).size≤7:=(by decide);have z4:(⟨#[32]⟩:ByteArray).size=1:=rfl;omega)) ?_;simp only[Qy,Qx];refine AB.tk 8 (Ψ (t++⟨#[32,112,111,119,101,114,32]⟩++wd wOp (op:Int)++⟨#[32]⟩)) rfl rfl (by kernel_rfl) (fun _ _ _ h=>h) (hst.and fun x y h e=>Ze.below h e (Ze.inside h)) (Yi rfl rfl rfl rfl (by(try simp only[Δ]);have z2:=Yr (L:=wOp) (by decide) (op:Int);have z3:((⟨#[32,112,111,119,101,114,32]⟩:ByteArray)).size≤7:=(by decide);have z4:(⟨#[32]⟩:ByteArray).size=1:=rfl;omega)) ?_;simp only[Qy,Qx];refine AB.tk 11 (Ψ (Xf fn)) rfl rfl (by kernel_rfl) (fun _ _ _ h=>h) (hst.and fun x y h e=>Ze.below h e (Ze.inside h)) (Wx.call rfl (fun w=>by kernel_rfl) (fun y hy=>hq y)) ?_;simp only[Qy,Qx];refine AB.tk 12 (Ψ (t++⟨#[32,112,111,119,101,114,32]⟩++wd wOp (op:Int)++⟨#[32]⟩++Xf fn)) rfl rfl (by kernel_rfl) (fun _ _ _ h=>h) (hst.and fun x y h e=>Ze.below h e (Ze.inside h)) (Yi rfl rfl rfl rfl (by(try simp only[Δ]);have z2:=Yr (L:=wOp) (by decide) (op:Int);have z3:((⟨#[32,112,111,119,101,114,32]⟩:ByteArray)).size≤7:=(by decide);have z4:(⟨#[32]⟩:ByteArray).size=1:=rfl;omega)) ?_;simp only[Qy,Qx];refine AB.tk 13 (Ψ (t++⟨#[32,112,111,119,101,114,32]⟩++wd wOp (op:Int)++⟨#[32]⟩++Xf fn)) rfl rfl (by kernel_rfl) (fun _ _ _ h=>h) (hst.and fun x y h e=>Ze.below h e (Ze.inside h)) (Zn rfl (fun y hy=>by go_simp)) ?_;simp only[Qy,Qx];refine AB.done (by kernel_rfl) (fun wn hS=>?_);have T:=Hh hS.1;clear hS;clear hq;go_wp2_with fail
       go_roundw
       case rel=>exact⟨m+1,by go_num,by omega,by rw[HNX.out];rfl,T.out.less (bs:=[_]) (cs:=[_]) (ts:=[]) (us:=[])⟩
       case measure=>simp[intOf];omega
      ·have zm:fm.size≤10000000000:=by have:=hnm rfl;omega
       clear hvf hns hnm;go_wp2_with(first
 |((with_reducible refine Zd 45 ?_);refine Zr 174 _ g (m*4) ([I J 3,I J fo,I J fn,Ψ fm]) (HR.out _ T.out.below) Zeu Ua rfl rfl rfl ?_)
 |((with_reducible refine Zd 5 ?_);refine Zc T.out 174 _ rfl rfl Zna ?_;intro wn g5 tn;have T:=Hh tn;clear tn)
 |((with_reducible refine Zi 5 45 ?_);refine Za 174 _ _ 174 g5 _ ([I J 3,I J fo,I J fn,Ψ fm]) (T.out.get 1 rfl) rfl Ua (by simp[Γ]) rfl rfl rfl rfl rfl ?_;intro wn p;have T:=Hh (T.out.put 1 rfl p);clear p;have c5_0:=T.out.cell 1 0 rfl rfl;have c5_1:=T.out.cell 1 1 rfl rfl;have c5_2:=T.out.cell 1 2 rfl rfl;have c5_3:=T.out.cell 1 3 rfl rfl))
       go_roundw
       case rel=>exact⟨m+1,by go_num,by omega,by rw[HNX.out];rfl,T.out.less (bs:=[_]) (cs:=[_]) (ts:=[]) (us:=[])⟩
       case measure=>simp[intOf];omega
      ·clear hvf hns hnm
       go_wp2_with(first
 |((with_reducible refine Zd 45 ?_);refine Zr 174 _ g (m*4) ([I J 4,I J fo,I J fn,Ψ fm]) (HR.out _ T.out.below) Zeu Ua rfl rfl rfl ?_)
 |((with_reducible refine Zd 5 ?_);refine Zc T.out 174 _ rfl rfl Zna ?_;intro wn g5 tn;have T:=Hh tn;clear tn)
 |((with_reducible refine Zi 5 45 ?_);refine Za 174 _ _ 174 g5 _ ([I J 4,I J fo,I J fn,Ψ fm]) (T.out.get 1 rfl) rfl Ua (by simp[Γ]) rfl rfl rfl rfl rfl ?_;intro wn p;have T:=Hh (T.out.put 1 rfl p);clear p;have c5_0:=T.out.cell 1 0 rfl rfl;have c5_1:=T.out.cell 1 1 rfl rfl;have c5_2:=T.out.cell 1 2 rfl rfl;have c5_3:=T.out.cell 1 3 rfl rfl))
       go_roundw
       case rel=>exact⟨m+1,by go_num,by omega,by rw[HNX.out];rfl,T.out.less (bs:=[_]) (cs:=[_]) (ts:=[]) (us:=[])⟩
       case measure=>simp[intOf];omega
      ·clear hvf hns hnm
       go_wp2_with(first
 |((with_reducible refine Zd 45 ?_);refine Zr 174 _ g (m*4) ([I J 5,I J fo,I J fn,Ψ fm]) (HR.out _ T.out.below) Zeu Ua rfl rfl rfl ?_)
 |((with_reducible refine Zd 5 ?_);refine Zc T.out 174 _ rfl rfl Zna ?_;intro wn g5 tn;have T:=Hh tn;clear tn)
 |((with_reducible refine Zi 5 45 ?_);refine Za 174 _ _ 174 g5 _ ([I J 5,I J fo,I J fn,Ψ fm]) (T.out.get 1 rfl) rfl Ua (by simp[Γ]) rfl rfl rfl rfl rfl ?_;intro wn p;have T:=Hh (T.out.put 1 rfl p);clear p;have c5_0:=T.out.cell 1 0 rfl rfl;have c5_1:=T.out.cell 1 1 rfl rfl;have c5_2:=T.out.cell 1 2 rfl rfl;have c5_3:=T.out.cell 1 3 rfl rfl))
       go_roundw
       case rel=>exact⟨m+1,by go_num,by omega,by rw[HNX.out];rfl,T.out.less (bs:=[_]) (cs:=[_]) (ts:=[]) (us:=[])⟩
       case measure=>simp[intOf];omega
     ·have lk:¬(m:Int)<(n:Int):=by omega
      have e:Zoz fs B1 m=F:=by
       have em:m=fs.length:=by rw[←hN.out];omega
       rw[em,midF_end,HF.out.1]
      rw[e]at zt ⊢;clear e;go_upto_region 22 with(fail)
      clear c0_0 c0_1 c0_2 c0_3 c0_4 c0_5;refine Xg (fun x=>Env w [(g0,49,[I J 3,I J (sd:Int),I J (wh:Int),I J ln,Λ A n c,I J (pk:Int)])] [] [] x) (by kernel_rfl) T.out.drew ?_;have hst:Zdp (fun x=>Env w [(g0,49,[I J 3,I J (sd:Int),I J (wh:Int),I J ln,Λ A n c,I J (pk:Int)])] [] [] x):=fun x y h e=>Env.call h e
      refine AB.tk 0 (Ψ F) rfl rfl (by kernel_rfl) (fun _ _ _ h=>h) hst (Vn rfl rfl rfl) ?_;simp only[Qy,Qx];refine AB.tk 1 (Ψ (F++⟨#[32]⟩)) rfl rfl (by kernel_rfl) (fun _ _ _ h=>h) hst (Yi rfl rfl rfl rfl (by(try simp only[Δ]);have z2:=Yr (L:=Wo) (by decide) (pk:Int);have z3:(⟨#[41]⟩:ByteArray).size=1:=rfl;have z4:(⟨#[32]⟩:ByteArray).size=1:=rfl;omega)) ?_;simp only[Qy,Qx];refine AB.tk 3 (Ω (some ⟨g0,5,none⟩)) rfl rfl (by kernel_rfl) (fun _ _ _ h=>h) hst (Zn rfl (fun y hy=>by go_simp)) ?_;simp only[Qy,Qx];refine AB.tk 4 (I J (pk:Int)) rfl rfl (by kernel_rfl) (fun _ _ _ h=>h) hst (Zn rfl (fun y hy=>by have c0:=Env.cell (hy) 0 5 rfl rfl;go_simp)) ?_;simp only[Qy,Qx];refine AB.one (i:=2) (by kernel_rfl) (Zeg.some (val:=fun g=>Λ (some ⟨g,0,none⟩) 6 6) (φ :=fun g x=>Ze x g 9 (wPicks.map Value.string).toArray) rfl rfl rfl hst (fun y hy=>by kernel_rfl) (fun y hy=>(rz_picks y).mono fun e w2 ⟨g,he,hg,hb⟩=>⟨g,he,hg,hb⟩) (fun g x y h e=>Ze.below h e (Ze.inside h)) (fun ga=>?_));simp only[Qy,Qx];refine AB.tk 5 (Ω (some ⟨ga,pk,none⟩)) rfl rfl (by kernel_rfl) (fun _ _ _ h=>h) (hst.and fun x y h e=>Ze.below h e (Ze.inside h)) (Zn rfl (fun y hy=>by go_simp)) ?_;simp only[Qy,Qx];refine AB.tk 6 (Ψ (wd Wo (pk:Int))) rfl rfl (by kernel_rfl) (fun _ _ _ h=>h) (hst.and fun x y h e=>Ze.below h e (Ze.inside h)) (Zn rfl (fun y hy=>by have c0:=Wi (L:=Wo) (hy.2) hp1 hp5;go_simp)) ?_;simp only[Qy,Qx];refine AB.tk 7 (Ψ (F++⟨#[32]⟩++wd Wo (pk:Int))) rfl rfl (by kernel_rfl) (fun _ _ _ h=>h) (hst.and fun x y h e=>Ze.below h e (Ze.inside h)) (Yi rfl rfl rfl rfl (by(try simp only[Δ]);have z2:=Yr (L:=Wo) (by decide) (pk:Int);have z3:(⟨#[41]⟩:ByteArray).size=1:=rfl;have z4:(⟨#[32]⟩:ByteArray).size=1:=rfl;omega)) ?_;simp only[Qy,Qx];refine AB.tk 8 (Ψ (F++⟨#[32]⟩++wd Wo (pk:Int)++⟨#[41]⟩)) rfl rfl (by kernel_rfl) (fun _ _ _ h=>h) (hst.and fun x y h e=>Ze.below h e (Ze.inside h)) (Yi rfl rfl rfl rfl (by(try simp only[Δ]);have z2:=Yr (L:=Wo) (by decide) (pk:Int);have z3:(⟨#[41]⟩:ByteArray).size=1:=rfl;have z4:(⟨#[32]⟩:ByteArray).size=1:=rfl;omega)) ?_;simp only[Qy,Qx];refine AB.tk 9 (Ψ (F++⟨#[32]⟩++wd Wo (pk:Int)++⟨#[41]⟩)) rfl rfl (by kernel_rfl) (fun _ _ _ h=>h) (hst.and fun x y h e=>Ze.below h e (Ze.inside h)) (Zn rfl (fun y hy=>by go_simp)) ?_;simp only[Qy,Qx];refine AB.done (by kernel_rfl) (fun wn hS=>?_);have T:=Hh hS.1;clear hS;go_wp2_with fail
      go_ret;exact⟨rfl,T.out.below⟩
def Znc:List ByteArray:=[⟨#[43]⟩,⟨#[45]⟩,⟨#[42]⟩]
def kB(b:Bool)(X:List ByteArray):List ByteArray:=if b=true then [Ws]++(X++[Vb])else X
def kLeaf(kind n:Int)(sel:Se)(side tk tl:Int):List ByteArray:=
 if kind=1 then [Xf n]else if kind=2∨kind=3 then [wd Yy (kind - 1)]++Zkg sel else if kind=4 then [wd Yy 3]else if kind=5 then [wd Yy 4,wd Zg side]else [wd Yy 5,wd Zg side]++kTo tk tl
def kEx:Ex→List ByteArray
 |.leaf kind n sel side tk tl=>kLeaf kind n sel side tk tl
 |.bin op l r=>kB (Zax false op l) (kEx l)++([wd Znc op]++kB (Zax true op r) (kEx r))
def Zfi:Ex→Int
 |.leaf .. =>3
 |.bin op _ _=>if op=3 then 2 else 1
def brB(whole tight:Int)(first:Bool):Bool:= !(decide (whole<tight) || (first && (tight == whole)))
theorem br_must{op:Int}(h1:1≤op)(h3:op≤3)(first:Bool):∀ x:Ex,VEx x→brB (Zfi (.bin op x x)) (Zfi x) first=Zax (!first) op x
 |.leaf ..,_=>by
  unfold brB Zax Zfi Ex.isSum Ex.isBin;by_cases h:op=3<;>cases first<;>simp[h]
 |.bin o l r,hv=>by
  have h:o=1∨o=2∨o=3:=by have:=hv.1;omega
  have h':op=1∨op=2∨op=3:=by omega
  rcases h with rfl | rfl | rfl<;>rcases h' with rfl | rfl | rfl<;>cases first<;>rfl
theorem tight_raw(k n:Int)(vs:List Value)(hvl:vs.length=12)(h0:vs[0]?=some (I J k))(h1:vs[1]?=some (I J n))(w:World) :
  Calls Φ 101 #[.agg vs.toArray] w fun e w'=>e=η (I J (if k=7 then(if n=3 then 2 else 1)else 3))∧Below w.heap.size w w':=by
 have T:=Hh (Env.start w);have H0:=Hh h0;have H1:=Hh h1;clear h0 h1 hvl;by_cases hk:k=7
 ·rw[if_pos hk]
  subst hk;by_cases hn:n=3
  ·rw[if_pos hn]
   subst hn;go_enter Tryz.func101,Tryz.ntmps101;go_wp2_with((with_reducible refine Zd 1 ?_);refine Zk T.out 54 _ vs rfl rfl rfl ?_;intro wn g tn;have T:=Hh tn;clear tn;have c0:=(T.out.get 0 rfl).nthQ 0 H0.out;have c1:=(T.out.get 0 rfl).nthQ 1 H1.out)
   go_ret;exact⟨rfl,T.out.below⟩
  ·rw[if_neg hn]
   have hb:(n == 3)=false:=by rw[beq_eq_false_iff_ne];exact hn
   go_enter Tryz.func101,Tryz.ntmps101;go_wp2_with((with_reducible refine Zd 1 ?_);refine Zk T.out 54 _ vs rfl rfl rfl ?_;intro wn g tn;have T:=Hh tn;clear tn;have c0:=(T.out.get 0 rfl).nthQ 0 H0.out;have c1:=(T.out.get 0 rfl).nthQ 1 H1.out)
   go_ret;exact⟨rfl,T.out.below⟩
 ·rw[if_neg hk]
  have hb:(k != 7)=true:=by simpa using hk
  have hb2:(k == 7)=false:=by rw[beq_eq_false_iff_ne];exact hk
  go_enter Tryz.func101,Tryz.ntmps101;go_wp2_with((with_reducible refine Zd 1 ?_);refine Zk T.out 54 _ vs rfl rfl rfl ?_;intro wn g tn;have T:=Hh tn;clear tn;have c0:=(T.out.get 0 rfl).nthQ 0 H0.out;have c1:=(T.out.get 0 rfl).nthQ 1 H1.out)
  go_ret;exact⟨rfl,T.out.below⟩
theorem ex_vals{N:Nat→Prop}{w:World}:∀{x:Ex}{vs:List Value},Zt N w x.ds vs→vs.length=12∧∃ k n,vs[0]?=some (I J k)∧vs[1]?=some (I J n)∧((∃ a b c d e,x=.leaf k a b c d e)∨(k=7∧∃ l r,x=.bin n l r))
 |.leaf k n s sd tk tl,vs,h=>by
  have hl:=h.len;rw[Ex.ds_len]at hl;obtain⟨_,rfl,_,rfl,h⟩:=h;exact⟨hl,k,n,rfl,rfl,.inl ⟨n,s,sd,tk,tl,rfl⟩⟩
 |.bin op l r,vs,h=>by
  have hl:=h.len;rw[Ex.ds_len]at hl;obtain⟨_,rfl,_,rfl,h⟩:=h;exact⟨hl,7,op,rfl,rfl,.inr ⟨rfl,l,r,rfl⟩⟩
theorem leaf_kind{k n:Int}{s:Se}{sd tk tl:Int}(hv:VLeaf k n s sd tk tl):k≠7:=by rcases hv with h | h | h | h | h<;>omega
theorem Zoh{N:Nat→Prop}{w0:World}(x:Ex)(hv:VEx x)(vs:List Value)(hd:Zt N w0 x.ds vs)(w:World) :
  Calls Φ 101 #[.agg vs.toArray] w fun e w'=>e=η (I J (Zfi x))∧Below w.heap.size w w':=by
 obtain⟨hl,k,n,h0,h1,hx⟩:=ex_vals hd;have h:=tight_raw k n vs hl h0 h1 w;rcases hx with⟨a,s,c,d,e,rfl⟩ | ⟨rfl,l,r,rfl⟩
 ·rw[if_neg (leaf_kind hv)]at h;exact h
 ·rw[if_pos rfl]at h;exact h
theorem PE.boxed{w0 x:World}{b:Nat}{st:List Int×Bool}{own:List Bk}(h:PE w0 b st own x)(t:TypeId)(u:Value):PE w0 b st ((x.heap.size,t,[u])::own) (x.alloc (.cells #[u] t)):=h.box t [u]
section
variable {w0 x:World} {b:Nat} {st:List Int×Bool} {own:List Bk} {P:Program} {ops:Array Oper} {rest:List Oper} {o:Oper} {a:Act} {Q:Exit→Act→World→Prop}
theorem wpList_boxP1(h:PE w0 b st own x)(t:TypeId)(v:Operand)(u:Value)(hg:o.guard=none)(ho:o.op=.box t v)(hv:a.eval v=u)(hu:u.cells=#[u])
  (hn:∀ y g,PE w0 b st ((g,t,[u])::own) y→wpList P ops Q rest (a.put o.dst (Ω (some ⟨g,0,none⟩))) y):wpList P ops Q (o::rest) a x:=
 wpList_boxTo hg t v ho o.dst rfl x.heap.size rfl #[u] (by rw[hv];exact hu) (hn _ _ (h.boxed t u))
theorem wpList_storeP1(h:PE w0 b st own x)(i:Nat)(T:TypeId)(p v:Operand)(t:TypeId)(g:Nat)(old u:Value)(hi0:own[i]?=some (g,t,[old]))(hi:(P.info? T).map (·.size)=some 1)(h1:u.oneCell'=true)
  (hgd:o.guard=none)(ho:o.op=.store T p v)(hd:o.dst=none)(hx:a.eval p=Ω (some ⟨g,0,none⟩))(hy:a.eval v=u)
  (hn:∀ y,PE w0 b st (own.set i (g,t,[u])) y→wpList P ops Q rest a y):wpList P ops Q (o::rest) a x:=
 Zm T p v t g 0 [] old u [] (by simpa using h.get i hi0) rfl hi h1 hgd ho hd hx hy fun w' p=>hn w' (h.put i hi0 (by simpa using p))
end
theorem qsize_int:(Tryz.prog.info? 3).map (·.size)=some 1:=by kernel_rfl
theorem qz_int:(Tryz.prog.info? 3).map (fun i=>i.zero.map Value.cells)=some (some ([I J 0]:List Value).toArray):=by kernel_rfl
theorem qz_ex:(Tryz.prog.info? 54).map (fun i=>i.zero.map Value.cells)=some (some ([I J 0,I J 0,I J 0,I J 0,I J 0,I J 0,Λ none 0 0,I J 0,I J 0,I J 0,I J 0,Λ none 0 0]:List Value).toArray):=by kernel_rfl
theorem pOpd_A(w0:World)(vs:List Value)(hvl:vs.length=12)(whole tau:Int)(first:Bool)(h1:whole<tau)(K:List ByteArray)(hx:Xz w0 45 (.agg vs.toArray) K)
  (ht:∀ x,Calls Φ 101 #[.agg vs.toArray] x fun e w'=>e=η (I J tau)∧Below x.heap.size x w')(b:Nat)(st:List Int×Bool)(own:List Bk)(x:World)(h:PE w0 b st own x)(gw gp iw ip:Nat)(t1 t2:TypeId)
  (hw:own[iw]?=some (gw,t1,[I J whole]))(hp:own[ip]?=some (gp,t2,[Ω (some ⟨b,0,none⟩)]))(hr:Yw st (K)) :
  Calls Φ 102 #[.agg vs.toArray,.bool first,Ω (some ⟨gw,0,none⟩),Ω (some ⟨gp,0,none⟩)] x (Zib w0 b (Zs st (K)) own):=by
 obtain⟨s1,E1⟩:∃ s,s=Zs st (K):=⟨_,rfl⟩
 have R1:=Hh hr;clear hr;have EK:Zs st ((K))=s1:=by simp only[Yl,E1]
 rw[EK];clear EK;have P2:=Hh (hx.at_ (b:=b) E1 R1.out);have HE1:=Hh E1;clear E1;have T:=Hh h;have HT:=Hh ht;have HVL:=Hh hvl;have HWi:=Hh hw;have HPi:=Hh hp;clear h hx ht hvl hw hp;have d1:decide (whole<tau)=true:=decide_eq_true h1;cases first
 all_goals
  go_enter Tryz.func102,Tryz.ntmps102;go_wp2_with(first
 |((with_reducible refine Zd 4 ?_);refine Yp T.out 54 _ vs rfl rfl rfl ?_;intro wn g tn;have T:=Hh tn;clear tn;have cw:wn.cell? ⟨gw,0,none⟩=some (I J whole):=(T.out.get (iw+1) (by simpa using HWi.out)).read 0;have cp:wn.cell? ⟨gp,0,none⟩=some (Ω (some ⟨b,0,none⟩)):=(T.out.get (ip+1) (by simpa using HPi.out)).read 0)
 |((with_reducible refine Zd 7 ?_);refine Zb 54 _ 54 g vs (T.out.get 0 rfl) Xm (by rw[HVL.out];exact Yz) rfl rfl rfl ?_)
 |((with_reducible refine Zd 21 ?_);refine Zb 54 _ 54 g vs (T.out.get 0 rfl) Xm (by rw[HVL.out];exact Yz) rfl rfl rfl ?_)
 |((with_reducible refine Zd 27 ?_);refine Zb 54 _ 54 g vs (T.out.get 0 rfl) Xm (by rw[HVL.out];exact Yz) rfl rfl rfl ?_)
 |(go_at_call 101;refine(HT.out _).mono ?_;rintro e wn ⟨rfl,bn⟩;have T:=Hh (T.out.call bn);clear bn;have cw:wn.cell? ⟨gw,0,none⟩=some (I J whole):=(T.out.get (iw+1) (by simpa using HWi.out)).read 0;have cp:wn.cell? ⟨gp,0,none⟩=some (Ω (some ⟨b,0,none⟩)):=(T.out.get (ip+1) (by simpa using HPi.out)).read 0)
 |(go_at_call 45;refine(P2.out _ _ T.out).mono ?_;rintro e wn ⟨rfl,tn⟩;have T:=Hh tn;clear tn;have cw:wn.cell? ⟨gw,0,none⟩=some (I J whole):=(T.out.get (iw+1) (by simpa using HWi.out)).read 0;have cp:wn.cell? ⟨gp,0,none⟩=some (Ω (some ⟨b,0,none⟩)):=(T.out.get (ip+1) (by simpa using HPi.out)).read 0))
  go_end0
  exact⟨rfl,T.out.tail⟩
theorem pOpd_B(w0:World)(vs:List Value)(hvl:vs.length=12)(whole tau:Int)(h1:¬ whole<tau)(h2:tau=whole)(K:List ByteArray)(hx:Xz w0 45 (.agg vs.toArray) K)
  (ht:∀ x,Calls Φ 101 #[.agg vs.toArray] x fun e w'=>e=η (I J tau)∧Below x.heap.size x w')(b:Nat)(st:List Int×Bool)(own:List Bk)(x:World)(h:PE w0 b st own x)(gw gp iw ip:Nat)(t1 t2:TypeId)
  (hw:own[iw]?=some (gw,t1,[I J whole]))(hp:own[ip]?=some (gp,t2,[Ω (some ⟨b,0,none⟩)]))(hr:Yw st (K)) :
  Calls Φ 102 #[.agg vs.toArray,.bool true,Ω (some ⟨gw,0,none⟩),Ω (some ⟨gp,0,none⟩)] x (Zib w0 b (Zs st (K)) own):=by
 obtain⟨s1,E1⟩:∃ s,s=Zs st (K):=⟨_,rfl⟩
 have R1:=Hh hr;clear hr;have EK:Zs st ((K))=s1:=by simp only[Yl,E1]
 rw[EK];clear EK;have P2:=Hh (hx.at_ (b:=b) E1 R1.out);have HE1:=Hh E1;clear E1;have T:=Hh h;have HT:=Hh ht;have HVL:=Hh hvl;have HWi:=Hh hw;have HPi:=Hh hp;clear h hx ht hvl hw hp;have d1:decide (whole<tau)=false:=decide_eq_false h1;have d2:(tau == whole)=true:=by simpa using h2
 subst h2;go_enter Tryz.func102,Tryz.ntmps102;go_wp2_with(first
 |((with_reducible refine Zd 4 ?_);refine Yp T.out 54 _ vs rfl rfl rfl ?_;intro wn g tn;have T:=Hh tn;clear tn;have cw:wn.cell? ⟨gw,0,none⟩=some (I J tau):=(T.out.get (iw+1) (by simpa using HWi.out)).read 0;have cp:wn.cell? ⟨gp,0,none⟩=some (Ω (some ⟨b,0,none⟩)):=(T.out.get (ip+1) (by simpa using HPi.out)).read 0)
 |((with_reducible refine Zd 7 ?_);refine Zb 54 _ 54 g vs (T.out.get 0 rfl) Xm (by rw[HVL.out];exact Yz) rfl rfl rfl ?_)
 |((with_reducible refine Zd 21 ?_);refine Zb 54 _ 54 g vs (T.out.get 0 rfl) Xm (by rw[HVL.out];exact Yz) rfl rfl rfl ?_)
 |((with_reducible refine Zd 27 ?_);refine Zb 54 _ 54 g vs (T.out.get 0 rfl) Xm (by rw[HVL.out];exact Yz) rfl rfl rfl ?_)
 |(go_at_call 101;refine(HT.out _).mono ?_;rintro e wn ⟨rfl,bn⟩;have T:=Hh (T.out.call bn);clear bn;have cw:wn.cell? ⟨gw,0,none⟩=some (I J tau):=(T.out.get (iw+1) (by simpa using HWi.out)).read 0;have cp:wn.cell? ⟨gp,0,none⟩=some (Ω (some ⟨b,0,none⟩)):=(T.out.get (ip+1) (by simpa using HPi.out)).read 0)
 |(go_at_call 45;refine(P2.out _ _ T.out).mono ?_;rintro e wn ⟨rfl,tn⟩;have T:=Hh tn;clear tn;have cw:wn.cell? ⟨gw,0,none⟩=some (I J tau):=(T.out.get (iw+1) (by simpa using HWi.out)).read 0;have cp:wn.cell? ⟨gp,0,none⟩=some (Ω (some ⟨b,0,none⟩)):=(T.out.get (ip+1) (by simpa using HPi.out)).read 0))
 go_end0
 exact⟨rfl,T.out.tail⟩
theorem pOpd_C(w0:World)(vs:List Value)(hvl:vs.length=12)(whole tau:Int)(h1:¬ whole<tau)(h2:tau≠whole)(K:List ByteArray)(hx:Xz w0 45 (.agg vs.toArray) K)
  (ht:∀ x,Calls Φ 101 #[.agg vs.toArray] x fun e w'=>e=η (I J tau)∧Below x.heap.size x w')(b:Nat)(st:List Int×Bool)(own:List Bk)(x:World)(h:PE w0 b st own x)(gw gp iw ip:Nat)(t1 t2:TypeId)
  (hw:own[iw]?=some (gw,t1,[I J whole]))(hp:own[ip]?=some (gp,t2,[Ω (some ⟨b,0,none⟩)]))(hr:Yw st ([Ws]++(K++[Vb]))) :
  Calls Φ 102 #[.agg vs.toArray,.bool true,Ω (some ⟨gw,0,none⟩),Ω (some ⟨gp,0,none⟩)] x (Zib w0 b (Zs st ([Ws]++(K++[Vb]))) own):=by
 obtain⟨s1,E1⟩:∃ s,s=Zs st ([Ws]):=⟨_,rfl⟩
 have R1:=Hh (Yw.first hr);replace hr:=Yw.next hr;rw[←E1]at hr;obtain⟨s2,E2⟩:∃ s,s=Zs s1 (K):=⟨_,rfl⟩
 have R2:=Hh (Yw.first hr);replace hr:=Yw.next hr;rw[←E2]at hr;obtain⟨s3,E3⟩:∃ s,s=Zs s2 ([Vb]):=⟨_,rfl⟩
 have R3:=Hh hr;clear hr;have EK:Zs st (([Ws])++((K)++(([Vb]))))=s3:=by simp only[Yl,E1,E2,E3]
 rw[EK];clear EK;have P1:=Hh (fun own x=>Wh (w0:=w0) (b:=b) E1 R1.out (by simp) own x);have P2:=Hh (hx.at_ (b:=b) E2 R2.out);have P3:=Hh (fun own x=>Wh (w0:=w0) (b:=b) E3 R3.out (by simp) own x);have HE1:=Hh E1;clear E1;have HE2:=Hh E2;clear E2;have HE3:=Hh E3;clear E3;have T:=Hh h;have HT:=Hh ht;have HVL:=Hh hvl;have HWi:=Hh hw;have HPi:=Hh hp;clear h hx ht hvl hw hp;have d1:decide (whole<tau)=false:=decide_eq_false h1;have d2:(tau == whole)=false:=by simpa using h2
 go_enter Tryz.func102,Tryz.ntmps102;go_wp2_with(first
 |((with_reducible refine Zd 4 ?_);refine Yp T.out 54 _ vs rfl rfl rfl ?_;intro wn g tn;have T:=Hh tn;clear tn;have cw:wn.cell? ⟨gw,0,none⟩=some (I J whole):=(T.out.get (iw+1) (by simpa using HWi.out)).read 0;have cp:wn.cell? ⟨gp,0,none⟩=some (Ω (some ⟨b,0,none⟩)):=(T.out.get (ip+1) (by simpa using HPi.out)).read 0)
 |((with_reducible refine Zd 7 ?_);refine Zb 54 _ 54 g vs (T.out.get 0 rfl) Xm (by rw[HVL.out];exact Yz) rfl rfl rfl ?_)
 |((with_reducible refine Zd 21 ?_);refine Zb 54 _ 54 g vs (T.out.get 0 rfl) Xm (by rw[HVL.out];exact Yz) rfl rfl rfl ?_)
 |((with_reducible refine Zd 27 ?_);refine Zb 54 _ 54 g vs (T.out.get 0 rfl) Xm (by rw[HVL.out];exact Yz) rfl rfl rfl ?_)
 |(go_at_call 101;refine(HT.out _).mono ?_;rintro e wn ⟨rfl,bn⟩;have T:=Hh (T.out.call bn);clear bn;have cw:wn.cell? ⟨gw,0,none⟩=some (I J whole):=(T.out.get (iw+1) (by simpa using HWi.out)).read 0;have cp:wn.cell? ⟨gp,0,none⟩=some (Ω (some ⟨b,0,none⟩)):=(T.out.get (ip+1) (by simpa using HPi.out)).read 0)
 |(go_at_call 56;refine(P1.out _ _ _ _ _ T.out rfl rfl).mono ?_;rintro e wn ⟨rfl,tn⟩;have T:=Hh tn;clear tn;have cw:wn.cell? ⟨gw,0,none⟩=some (I J whole):=(T.out.get (iw+1) (by simpa using HWi.out)).read 0;have cp:wn.cell? ⟨gp,0,none⟩=some (Ω (some ⟨b,0,none⟩)):=(T.out.get (ip+1) (by simpa using HPi.out)).read 0)
 |(go_at_call 56;refine(P3.out _ _ _ _ _ T.out rfl rfl).mono ?_;rintro e wn ⟨rfl,tn⟩;have T:=Hh tn;clear tn;have cw:wn.cell? ⟨gw,0,none⟩=some (I J whole):=(T.out.get (iw+1) (by simpa using HWi.out)).read 0;have cp:wn.cell? ⟨gp,0,none⟩=some (Ω (some ⟨b,0,none⟩)):=(T.out.get (ip+1) (by simpa using HPi.out)).read 0)
 |(go_at_call 45;refine(P2.out _ _ T.out).mono ?_;rintro e wn ⟨rfl,tn⟩;have T:=Hh tn;clear tn;have cw:wn.cell? ⟨gw,0,none⟩=some (I J whole):=(T.out.get (iw+1) (by simpa using HWi.out)).read 0;have cp:wn.cell? ⟨gp,0,none⟩=some (Ω (some ⟨b,0,none⟩)):=(T.out.get (ip+1) (by simpa using HPi.out)).read 0))
 go_end0
 exact⟨rfl,T.out.tail⟩
theorem pOpd_D(w0:World)(vs:List Value)(hvl:vs.length=12)(whole tau:Int)(h1:¬ whole<tau)(K:List ByteArray)(hx:Xz w0 45 (.agg vs.toArray) K)
  (ht:∀ x,Calls Φ 101 #[.agg vs.toArray] x fun e w'=>e=η (I J tau)∧Below x.heap.size x w')(b:Nat)(st:List Int×Bool)(own:List Bk)(x:World)(h:PE w0 b st own x)(gw gp iw ip:Nat)(t1 t2:TypeId)
  (hw:own[iw]?=some (gw,t1,[I J whole]))(hp:own[ip]?=some (gp,t2,[Ω (some ⟨b,0,none⟩)]))(hr:Yw st ([Ws]++(K++[Vb]))) :
  Calls Φ 102 #[.agg vs.toArray,.bool false,Ω (some ⟨gw,0,none⟩),Ω (some ⟨gp,0,none⟩)] x (Zib w0 b (Zs st ([Ws]++(K++[Vb]))) own):=by
 obtain⟨s1,E1⟩:∃ s,s=Zs st ([Ws]):=⟨_,rfl⟩
 have R1:=Hh (Yw.first hr);replace hr:=Yw.next hr;rw[←E1]at hr;obtain⟨s2,E2⟩:∃ s,s=Zs s1 (K):=⟨_,rfl⟩
 have R2:=Hh (Yw.first hr);replace hr:=Yw.next hr;rw[←E2]at hr;obtain⟨s3,E3⟩:∃ s,s=Zs s2 ([Vb]):=⟨_,rfl⟩
 have R3:=Hh hr;clear hr;have EK:Zs st (([Ws])++((K)++(([Vb]))))=s3:=by simp only[Yl,E1,E2,E3]
 rw[EK];clear EK;have P1:=Hh (fun own x=>Wh (w0:=w0) (b:=b) E1 R1.out (by simp) own x);have P2:=Hh (hx.at_ (b:=b) E2 R2.out);have P3:=Hh (fun own x=>Wh (w0:=w0) (b:=b) E3 R3.out (by simp) own x);have HE1:=Hh E1;clear E1;have HE2:=Hh E2;clear E2;have HE3:=Hh E3;clear E3;have T:=Hh h;have HT:=Hh ht;have HVL:=Hh hvl;have HWi:=Hh hw;have HPi:=Hh hp;clear h hx ht hvl hw hp;have d1:decide (whole<tau)=false:=decide_eq_false h1;go_enter Tryz.func102,Tryz.ntmps102;go_wp2_with(first
 |((with_reducible refine Zd 4 ?_);refine Yp T.out 54 _ vs rfl rfl rfl ?_;intro wn g tn;have T:=Hh tn;clear tn;have cw:wn.cell? ⟨gw,0,none⟩=some (I J whole):=(T.out.get (iw+1) (by simpa using HWi.out)).read 0;have cp:wn.cell? ⟨gp,0,none⟩=some (Ω (some ⟨b,0,none⟩)):=(T.out.get (ip+1) (by simpa using HPi.out)).read 0)
 |((with_reducible refine Zd 7 ?_);refine Zb 54 _ 54 g vs (T.out.get 0 rfl) Xm (by rw[HVL.out];exact Yz) rfl rfl rfl ?_)
 |((with_reducible refine Zd 21 ?_);refine Zb 54 _ 54 g vs (T.out.get 0 rfl) Xm (by rw[HVL.out];exact Yz) rfl rfl rfl ?_)
 |((with_reducible refine Zd 27 ?_);refine Zb 54 _ 54 g vs (T.out.get 0 rfl) Xm (by rw[HVL.out];exact Yz) rfl rfl rfl ?_)
 |(go_at_call 101;refine(HT.out _).mono ?_;rintro e wn ⟨rfl,bn⟩;have T:=Hh (T.out.call bn);clear bn;have cw:wn.cell? ⟨gw,0,none⟩=some (I J whole):=(T.out.get (iw+1) (by simpa using HWi.out)).read 0;have cp:wn.cell? ⟨gp,0,none⟩=some (Ω (some ⟨b,0,none⟩)):=(T.out.get (ip+1) (by simpa using HPi.out)).read 0)
 |(go_at_call 56;refine(P1.out _ _ _ _ _ T.out rfl rfl).mono ?_;rintro e wn ⟨rfl,tn⟩;have T:=Hh tn;clear tn;have cw:wn.cell? ⟨gw,0,none⟩=some (I J whole):=(T.out.get (iw+1) (by simpa using HWi.out)).read 0;have cp:wn.cell? ⟨gp,0,none⟩=some (Ω (some ⟨b,0,none⟩)):=(T.out.get (ip+1) (by simpa using HPi.out)).read 0)
 |(go_at_call 56;refine(P3.out _ _ _ _ _ T.out rfl rfl).mono ?_;rintro e wn ⟨rfl,tn⟩;have T:=Hh tn;clear tn;have cw:wn.cell? ⟨gw,0,none⟩=some (I J whole):=(T.out.get (iw+1) (by simpa using HWi.out)).read 0;have cp:wn.cell? ⟨gp,0,none⟩=some (Ω (some ⟨b,0,none⟩)):=(T.out.get (ip+1) (by simpa using HPi.out)).read 0)
 |(go_at_call 45;refine(P2.out _ _ T.out).mono ?_;rintro e wn ⟨rfl,tn⟩;have T:=Hh tn;clear tn;have cw:wn.cell? ⟨gw,0,none⟩=some (I J whole):=(T.out.get (iw+1) (by simpa using HWi.out)).read 0;have cp:wn.cell? ⟨gp,0,none⟩=some (Ω (some ⟨b,0,none⟩)):=(T.out.get (ip+1) (by simpa using HPi.out)).read 0))
 go_end0
 exact⟨rfl,T.out.tail⟩
theorem pOpd(w0:World)(vs:List Value)(hvl:vs.length=12)(whole tau:Int)(first:Bool)(K:List ByteArray)(hx:Xz w0 45 (.agg vs.toArray) K)
  (ht:∀ x,Calls Φ 101 #[.agg vs.toArray] x fun e w'=>e=η (I J tau)∧Below x.heap.size x w')(b:Nat){s1 s2:List Int×Bool}(he:s2=Zs s1 (kB (brB whole tau first) K))(hr:Yw s1 (kB (brB whole tau first) K))(own:List Bk)(x:World)(h:PE w0 b s1 own x)(gw gp iw ip:Nat)(t1 t2:TypeId)
  (hw:own[iw]?=some (gw,t1,[I J whole]))(hp:own[ip]?=some (gp,t2,[Ω (some ⟨b,0,none⟩)])) :
  Calls Φ 102 #[.agg vs.toArray,.bool first,Ω (some ⟨gw,0,none⟩),Ω (some ⟨gp,0,none⟩)] x (Zib w0 b s2 own):=by
 subst he;unfold kB brB at hr ⊢;by_cases h1:whole<tau
 ·rw[if_neg (by simp[h1])]at hr ⊢
  exact pOpd_A w0 vs hvl whole tau first h1 K hx ht b s1 own x h gw gp iw ip t1 t2 hw hp hr
 ·cases first
  ·rw[if_pos (by simp[h1])]at hr ⊢
   exact pOpd_D w0 vs hvl whole tau h1 K hx ht b s1 own x h gw gp iw ip t1 t2 hw hp hr
  ·by_cases h2:tau=whole
   ·rw[if_neg (by simp[h2])]at hr ⊢
    exact pOpd_B w0 vs hvl whole tau h1 h2 K hx ht b s1 own x h gw gp iw ip t1 t2 hw hp hr
   ·rw[if_pos (by simp[h1,h2])]at hr ⊢
    exact pOpd_C w0 vs hvl whole tau h1 h2 K hx ht b s1 own x h gw gp iw ip t1 t2 hw hp hr
theorem bin_vals{N:Nat→Prop}{w:World}{op:Int}{l r:Ex}{vs:List Value}(hd:Zt N w (Ex.bin op l r).ds vs) :
  vs.length=12∧vs[0]?=some (I J 7)∧vs[1]?=some (I J op)∧∃ g kc ys us,vs[11]?=some (Λ (some ⟨g,0,none⟩) 2 kc)∧g<w.heap.size∧w.rangeAt g 0 ys∧w.rangeAt g 12 us∧Zt N w l.ds ys∧Zt N w r.ds us∧ys.length=12∧us.length=12:=by
 have hl:=hd.len;rw[Ex.ds_len]at hl;obtain⟨_,rfl,_,rfl,h⟩:=hd;obtain⟨sv,_,rfl,hs,h⟩:=Zt.split (x:=zSe.ds) h;obtain⟨_,rfl,_,rfl,_,rfl,C,kc,xs,_,rfl,_,hw,hk,rfl⟩:=h;have e:sv.length=6:=by rw[hs.len,Se.ds_len]
 obtain⟨ys,us,rfl,h1,h2⟩:=Zt.split (x:=l.ds) hk;have l1:ys.length=12:=by rw[h1.len,Ex.ds_len]
 have l2:us.length=12:=by rw[h2.len,Ex.ds_len]
 obtain⟨g,rfl,hg,hc⟩:=hw.reads (by rw[List.length_append,l1,l2];omega);refine⟨hl,rfl,rfl,g,kc,ys,us,by simp[List.getElem?_append,e],hg,fun j v hv=>?_,fun j v hv=>?_,h1,h2,l1,l2⟩
 ·have hj:j<ys.length:=(List.getElem?_eq_some_iff.1 hv).1
  rw[Nat.zero_add,hc _ (by rw[List.length_append];omega),List.getElem?_append_left hj,hv]
 ·have hj:j<us.length:=(List.getElem?_eq_some_iff.1 hv).1
  rw[hc _ (by rw[List.length_append];omega),List.getElem?_append_right (by omega),show 12+j - ys.length=j from by omega,hv]
theorem pBinary(w0:World)(N:Nat→Prop)(op:Int)(l r:Ex)(h1:1≤op)(h3:op≤3)(hvl:VEx l)(hvr:VEx r)(IL:∀ ys,Zt N w0 l.ds ys→Xz w0 45 (.agg ys.toArray) (kEx l))(IR:∀ ys,Zt N w0 r.ds ys→Xz w0 45 (.agg ys.toArray) (kEx r))
  (vs:List Value)(hd:Zt N w0 (Ex.bin op l r).ds vs):Xz w0 80 (.agg vs.toArray) (kEx (.bin op l r)):=by
 intro b st own x h hr;have htw:=fun w=>Zoh (.bin op l r) ⟨⟨h1,h3⟩,hvl,hvr⟩ vs hd w
 obtain⟨hl,v0,v1,g,kc,ys,us,v11,hg,hy,hu,dy,du,ly,lu⟩:=bin_vals hd;have e1:brB (Zfi (.bin op l r)) (Zfi l) true=Zax false op l:=br_must h1 h3 true l hvl;have e2:brB (Zfi (.bin op l r)) (Zfi r) false=Zax true op r:=br_must h1 h3 false r hvr;have ke:kEx (.bin op l r)=kB (Zax false op l) (kEx l)++([wd Znc op]++kB (Zax true op r) (kEx r)):=rfl;rw[ke]at hr ⊢;obtain⟨s1,E1⟩:∃ s,s=Zs st (kB (Zax false op l) (kEx l)):=⟨_,rfl⟩
 have R1:=Hh (Yw.first hr);replace hr:=Yw.next hr;rw[←E1]at hr;obtain⟨s2,E2⟩:∃ s,s=Zs s1 ([wd Znc op]):=⟨_,rfl⟩
 have R2:=Hh (Yw.first hr);replace hr:=Yw.next hr;rw[←E2]at hr;obtain⟨s3,E3⟩:∃ s,s=Zs s2 (kB (Zax true op r) (kEx r)):=⟨_,rfl⟩
 have R3:=Hh hr;clear hr;have EK:Zs st ((kB (Zax false op l) (kEx l))++(([wd Znc op])++((kB (Zax true op r) (kEx r)))))=s3:=by simp only[Yl,E1,E2,E3]
 rw[EK];clear EK;have O1:=Hh (pOpd w0 ys ly (Zfi (.bin op l r)) (Zfi l) true (kEx l) (IL ys dy) (fun w=>Zoh l hvl ys dy w) b (s1:=st) (s2:=s1) (by rw[e1];exact E1) (by rw[e1];exact R1.out));have P2:=Hh (fun own x=>Wh (w0:=w0) (b:=b) E2 R2.out (by simp) own x);have O3:=Hh (pOpd w0 us lu (Zfi (.bin op l r)) (Zfi r) false (kEx r) (IR us du) (fun w=>Zoh r hvr us du w) b (s1:=s2) (s2:=s3) (by rw[e2];exact E3) (by rw[e2];exact R3.out));generalize Zfi (.bin op l r)=whole at *;have HT:=Hh htw;have HVL:=Hh hl;have HLY:=Hh ly;have HLU:=Hh lu;have H1:=Hh v1;have H11:=Hh v11;have HY:=Hh hy;have HU:=Hh hu;have HDY:=Hh dy.one;have HDU:=Hh du.one;clear hd htw hl v0 v1 v11 hy hu dy du ly lu e1 e2 ke IL IR hvl hvr;have HE1:=Hh E1;clear E1;have HE2:=Hh E2;clear E2;have HE3:=Hh E3;clear E3;have T:=Hh h;clear h;go_enter Tryz.func80,Tryz.ntmps80;go_wp2_with(first
 |((with_reducible refine Zd 2 ?_);refine wpList_boxP1 T.out 84 _ (Ω (some ⟨b,0,none⟩)) rfl rfl rfl rfl ?_;intro wn g2 tn;have T:=Hh tn;clear tn)
 |((with_reducible refine Zd 3 ?_);refine Yp T.out 54 _ (vs) rfl rfl rfl ?_;intro wn g3 tn;have T:=Hh tn;clear tn;have c0_1:=(T.out.get 0 rfl).nthQ 1 H1.out;have c0_11:=(T.out.get 0 rfl).nthQ 11 H11.out;have c1_0:=T.out.cell 1 0 rfl rfl)
 |((with_reducible refine Zd 8 ?_);refine Zb 54 _ 54 g3 (vs) (T.out.get 0 rfl) Xm (by rw[HVL.out];exact Yz) rfl rfl rfl ?_)
 |(go_at_call 101;refine(HT.out _).mono ?_;rintro e wn ⟨rfl,bn⟩;have T:=Hh (T.out.call bn);clear bn;have c0_1:=(T.out.get 0 rfl).nthQ 1 H1.out;have c0_11:=(T.out.get 0 rfl).nthQ 11 H11.out;have c1_0:=T.out.cell 1 0 rfl rfl)
 |((with_reducible refine Zd 4 ?_);refine Vx T.out 3 _ rfl rfl qz_int ?_;intro wn g4 tn;have T:=Hh tn;clear tn;have c1_1:=(T.out.get 1 rfl).nthQ 1 H1.out;have c1_11:=(T.out.get 1 rfl).nthQ 11 H11.out;have c2_0:=T.out.cell 2 0 rfl rfl)
 |((with_reducible refine Zi 4 9 ?_);refine wpList_storeP1 T.out 0 3 _ _ 3 g4 _ (I J whole) rfl qsize_int rfl rfl rfl rfl rfl rfl ?_;intro wn tn;have T:Hid (PE w0 b st ((g4,3,[I J whole])::(g3,54,vs)::(g2,84,[Ω (some ⟨b,0,none⟩)])::own) wn):=Hh tn;clear tn;have c1_1:=(T.out.get 1 rfl).nthQ 1 H1.out;have c1_11:=(T.out.get 1 rfl).nthQ 11 H11.out;have c2_0:=T.out.cell 2 0 rfl rfl))
 go_loopw [14] (fun i wr=>∃ m:Nat,i=I J m∧m≤2∧PE w0 b (if m=0 then st else if m=1 then s1 else s3) ((g4,3,[I J whole])::(g3,54,vs)::(g2,84,[Ω (some ⟨b,0,none⟩)])::own) wr) (fun i _=>2 - (intOf i).toNat)
 case atStart=>exact⟨0,by go_num,by omega,T.out⟩
 case round=>
  obtain⟨m,rfl,hm2,hT⟩:=hrel;obtain rfl | rfl | rfl:m=0∨m=1∨m=2:=by omega
  · have T:Hid (PE w0 b st ((g4,3,[I J whole])::(g3,54,vs)::(g2,84,[Ω (some ⟨b,0,none⟩)])::own) wr):=Hh hT
    clear hT;go_wp2_with(first
 |((with_reducible refine Zd 18 ?_);refine Zr 54 _ g (0) (ys) (T.out.ranges HY.out hg) Xm (by rw[HLY.out];exact Yz) rfl rfl rfl ?_)
 |((with_reducible refine Zd 7 ?_);refine Vx T.out 54 _ rfl rfl qz_ex ?_;intro wn g7 tn;have T:=Hh tn;clear tn)
 |((with_reducible refine Zi 7 18 ?_);refine Za 54 _ _ 54 g7 _ (ys) (T.out.get 0 rfl) HLY.out (by rw[HLY.out];exact Yz) HDY.out rfl rfl rfl rfl rfl ?_;intro wn p;have T:=Hh (T.out.put 0 rfl p);clear p)
 |((with_reducible refine Zd 29 ?_);refine Zb 54 _ 54 g7 (ys) (T.out.get 0 rfl) Xm (by rw[HLY.out];exact Yz) rfl rfl rfl ?_)
 |(go_at_call 102;refine(O1.out _ _ T.out g4 g2 1 3 _ _ rfl rfl).mono ?_;rintro e wn ⟨rfl,tn⟩;have T:=Hh tn;clear tn))
    go_roundw
    case rel=>exact⟨1,by go_num,by omega,T.out.tail⟩
    case measure=>simp[intOf]
  · have T:Hid (PE w0 b s1 ((g4,3,[I J whole])::(g3,54,vs)::(g2,84,[Ω (some ⟨b,0,none⟩)])::own) wr):=Hh hT
    clear hT;go_upto_region 7 with(first
 |((with_reducible refine Zd 18 ?_);refine Zr 54 _ g (12) (us) (T.out.ranges HU.out hg) Xm (by rw[HLU.out];exact Yz) rfl rfl rfl ?_)
 |((with_reducible refine Zd 7 ?_);refine Vx T.out 54 _ rfl rfl qz_ex ?_;intro wn g7 tn;have T:=Hh tn;clear tn)
 |((with_reducible refine Zi 7 18 ?_);refine Za 54 _ _ 54 g7 _ (us) (T.out.get 0 rfl) HLU.out (by rw[HLU.out];exact Yz) HDU.out rfl rfl rfl rfl rfl ?_;intro wn p;have T:=Hh (T.out.put 0 rfl p);clear p;have c2_1:=(T.out.get 2 rfl).nthQ 1 H1.out;have c3_0:=T.out.cell 3 0 rfl rfl))
    go_cut []from 21 to 27 (fun wx=>PE w0 b s2 ((g7,54,us)::(g4,3,[I J whole])::(g3,54,vs)::(g2,84,[Ω (some ⟨b,0,none⟩)])::own) wx)
    case first=>
     refine wp_region_held_drew (S:=fun x=>∃ s,PE w0 b s ((g7,54,us)::(g4,3,[I J whole])::(g3,54,vs)::(g2,84,[Ω (some ⟨b,0,none⟩)])::own) x) (by kernel_rfl) ⟨_,T.out.drew⟩ (fun hS=>?_);have hP:=T.out.drew;generalize wn.drew=wf at *;refine Xl (i:=0) (v:=Ω (some ⟨b,0,none⟩)) rfl rfl (by kernel_rfl) (by kernel_rfl) (by kernel_rfl) (fun _ _ _ h=>h) (Or.inl ⟨by rfl,fun y hy=>by obtain⟨_,hy⟩:=hy;have c0:=(PE.get hy 3 rfl).read 0;go_simp⟩) hS ?_;try simp only[Qy,Qx]
     refine Xl (i:=1) (v:=Ω (some ⟨g3,1,none⟩)) rfl rfl (by kernel_rfl) (by kernel_rfl) (by kernel_rfl) (fun _ _ _ h=>h) (Or.inl ⟨by rfl,fun y hy=>by go_simp⟩) hS ?_;try simp only[Qy,Qx]
     refine Xl (i:=2) (v:=I J op) rfl rfl (by kernel_rfl) (by kernel_rfl) (by kernel_rfl) (fun _ _ _ h=>h) (Or.inl ⟨by rfl,fun y hy=>by obtain⟨_,hy⟩:=hy;have c0:=(PE.get hy 2 rfl).nthQ 1 H1.out;go_simp⟩) hS ?_;try simp only[Qy,Qx]
     refine wpAnyH_ready (rs:=[3]) (by kernel_rfl) (by simp) (AllReadyH.cons rfl (fun K hK=>?_) AllReadyH.nil);clear hS;go_simp;have hP2:=hP.call (Zj wf (.cells #[Ψ ⟨#[43]⟩,Ψ ⟨#[45]⟩,Ψ ⟨#[42]⟩] 9));have hW:Ze (World.alloc wf (.cells #[Ψ ⟨#[43]⟩,Ψ ⟨#[45]⟩,Ψ ⟨#[42]⟩] 9)) wf.heap.size 9 (Zek Znc):=Ze.made _ _ _;obtain⟨q,hq⟩:∃ q,q=wf.heap.size:=⟨_,rfl⟩
     rw[←hq]at hW ⊢;clear hq hP;generalize World.alloc wf (.cells #[Ψ ⟨#[43]⟩,Ψ ⟨#[45]⟩,Ψ ⟨#[42]⟩] 9)=wf at *;have hP:=hP2;clear hP2;refine hK.out _ _ ⟨_,hP⟩ (fun hS=>?_);clear hK K;try simp only[Act.put,Qz,Qy,Qx]
     refine wpAnyH_ready (rs:=[4]) (by kernel_rfl) (by simp) (AllReadyH.cons rfl (fun K hK=>?_) AllReadyH.nil);clear hS;go_simp;go_at_call 87
     refine(Zjc hP hW op 3 3 rfl h1 (by show _≤((3:Nat):Int);omega) (by decide)).mono ?_;rintro e wf ⟨rfl,hP2⟩;clear hW;clear hP;have hP:=hP2;clear hP2;refine hK.out _ _ ⟨_,hP⟩ (fun hS=>?_);clear hK K;try simp only[Act.put,Qz,Qy,Qx]
     refine wpAnyH_ready (rs:=[5]) (by kernel_rfl) (by simp) (AllReadyH.cons rfl (fun K hK=>?_) AllReadyH.nil);clear hS;go_simp;refine hK.out _ _ ⟨_,hP.call (Zj wf (.cells #[Ψ (wd Znc op)] 9))⟩ (fun hS=>?_);clear hK K;try simp only[Act.put,Qz,Qy,Qx]
     refine wpAnyH_ready (rs:=[6]) (by kernel_rfl) (by simp) (AllReadyH.cons rfl (fun K hK=>?_) AllReadyH.nil);clear hS;go_simp;go_at_call 56
     refine(P2.out _ _ _ _ _ hP rfl rfl).mono ?_;rintro e wf ⟨rfl,hP2⟩;clear hP;have hP:=hP2;clear hP2;refine hK.out _ _ ⟨_,hP⟩ (fun hS=>?_);clear hK K;try simp only[Act.put,Qz,Qy,Qx]
     refine wpAnyH_done (by kernel_rfl) ?_ _;have T:=Hh hP;clear hP hS;go_wp2_with fail
     go_meet
     case rel=>exact T.out
    case rest=>
     have T:=Hh hcut;clear hcut;go_wp2_with(first
 |((with_reducible refine Zd 29 ?_);refine Zb 54 _ 54 g7 (us) (T.out.get 0 rfl) Xm (by rw[HLU.out];exact Yz) rfl rfl rfl ?_)
 |(go_at_call 102;refine(O3.out _ _ T.out g4 g2 1 3 _ _ rfl rfl).mono ?_;rintro e wn ⟨rfl,tn⟩;have T:=Hh tn;clear tn))
     go_roundw
     case rel=>exact⟨2,by go_num,by omega,T.out.tail⟩
     case measure=>simp[intOf]
  · have T:Hid (PE w0 b s3 ((g4,3,[I J whole])::(g3,54,vs)::(g2,84,[Ω (some ⟨b,0,none⟩)])::own) wr):=Hh hT
    clear hT;go_wp2
    go_end0
    exact⟨rfl,T.out.tail.tail.tail⟩
def Vu(k n:Int)(sv:List Value)(sd tk tl:Int)(z:Value):List Value:=I J k::I J n::(sv++[I J sd,I J tk,I J tl,z])
theorem Zbq{k n sd tk tl:Int}{sv:List Value}{z:Value}(h:sv.length=6):(Vu k n sv sd tk tl z).length=12∧(Vu k n sv sd tk tl z)[0]?=some (I J k)∧(Vu k n sv sd tk tl z)[1]?=some (I J n)∧(Vu k n sv sd tk tl z)[8]?=some (I J sd) ∧
  (∀(x:World)(g:Nat)(t:TypeId),Ze x g t (Vu k n sv sd tk tl z).toArray→x.rangeAt g 2 sv)∧(∀(x:World)(g:Nat)(t:TypeId),Ze x g t (Vu k n sv sd tk tl z).toArray→x.rangeAt g 9 [I J tk,I J tl]):=by
 refine⟨by simp[Vu,h],rfl,rfl,by simp[Vu,List.getElem?_append,h],fun x g t hw=>?_,fun x g t hw=>?_⟩
 ·have e:Vu k n sv sd tk tl z=[I J k,I J n]++sv++[I J sd,I J tk,I J tl,z]:=by simp[Vu]
  rw[e]at hw;exact hw.range
 ·have e:Vu k n sv sd tk tl z=(I J k::I J n::(sv++[I J sd]))++[I J tk,I J tl]++[z]:=by simp[Vu]
  rw[e]at hw;have:=hw.range;simpa[h]using this
theorem pEx_1(w0:World)(n sd tk tl:Int)(sv:List Value)(z:Value)(hsv:sv.length=6)(h1 : -99≤n)(h2:n≤99):Xz w0 45 (.agg (Vu 1 n sv sd tk tl z).toArray) ([Xf n]):=by
 intro b st own x h hr;obtain⟨s1,E1⟩:∃ s,s=Zs st ([Xf n]):=⟨_,rfl⟩
 have R1:=Hh hr;clear hr;have EK:Zs st (([Xf n]))=s1:=by simp only[Yl,E1]
 rw[EK];clear EK;have P1:=Hh (fun own x=>Wh (w0:=w0) (b:=b) E1 R1.out (by simp) own x);have HE1:=Hh E1;clear E1;obtain⟨l12,a0,a1,a8,rs,rt⟩:=Zbq (k:=1) (n:=n) (sd:=sd) (tk:=tk) (tl:=tl) (z:=z) hsv;have HSV:=Hh hsv;have H0:=Hh a0;have H1:=Hh a1;have H8:=Hh a8;have RS:=Hh rs;have RT:=Hh rt;generalize Vu 1 n sv sd tk tl z=vs at *;clear l12 a0 a1 a8 rs rt hsv;have T:=Hh h;clear h;go_enter Tryz.func45,Tryz.ntmps45;go_wp2_with(first
 |((with_reducible refine Zd 3 ?_);refine Yp T.out 54 _ (vs) rfl rfl rfl ?_;intro wn g0 tn;have T:=Hh tn;clear tn;have c0_0:=(T.out.get 0 rfl).nthQ 0 H0.out;have c0_1:=(T.out.get 0 rfl).nthQ 1 H1.out;have c0_8:=(T.out.get 0 rfl).nthQ 8 H8.out)
 |(go_at_call 58;(with_reducible refine(vqNum T.out (n) (h1) (h2)).mono ?_);rintro e wn ⟨rfl,tn⟩;have T:=Hh tn;clear tn;have c0_0:=(T.out.get 0 rfl).nthQ 0 H0.out;have c0_1:=(T.out.get 0 rfl).nthQ 1 H1.out;have c0_8:=(T.out.get 0 rfl).nthQ 8 H8.out)
 |(go_at_call 56;refine(P1.out _ _ _ _ _ T.out rfl rfl).mono ?_;rintro e wn ⟨rfl,tn⟩;have T:=Hh tn;clear tn;have c0_0:=(T.out.get 0 rfl).nthQ 0 H0.out;have c0_1:=(T.out.get 0 rfl).nthQ 1 H1.out;have c0_8:=(T.out.get 0 rfl).nthQ 8 H8.out))
 go_end0
 exact⟨rfl,T.out.tail⟩
theorem pEx_2(w0:World)(n sd tk tl:Int)(sv:List Value)(z:Value)(hsv:sv.length=6)(KS:List ByteArray)(hsel:Xz w0 77 (.agg sv.toArray) KS):Xz w0 45 (.agg (Vu 2 n sv sd tk tl z).toArray) ([⟨#[99,111,117,110,116]⟩]++KS):=by
 intro b st own x h hr;obtain⟨s1,E1⟩:∃ s,s=Zs st ([⟨#[99,111,117,110,116]⟩]):=⟨_,rfl⟩
 have R1:=Hh (Yw.first hr);replace hr:=Yw.next hr;rw[←E1]at hr;obtain⟨s2,E2⟩:∃ s,s=Zs s1 (KS):=⟨_,rfl⟩
 have R2:=Hh hr;clear hr;have EK:Zs st (([⟨#[99,111,117,110,116]⟩])++((KS)))=s2:=by simp only[Yl,E1,E2]
 rw[EK];clear EK;have P1:=Hh (fun own x=>Wh (w0:=w0) (b:=b) E1 R1.out (by simp) own x);have P2:=Hh (hsel.at_ (b:=b) E2 R2.out);have HE1:=Hh E1;clear E1;have HE2:=Hh E2;clear E2;obtain⟨l12,a0,a1,a8,rs,rt⟩:=Zbq (k:=2) (n:=n) (sd:=sd) (tk:=tk) (tl:=tl) (z:=z) hsv;have HSV:=Hh hsv;have H0:=Hh a0;have H1:=Hh a1;have H8:=Hh a8;have RS:=Hh rs;have RT:=Hh rt;generalize Vu 2 n sv sd tk tl z=vs at *;clear l12 a0 a1 a8 rs rt hsv;have T:=Hh h;clear h;clear hsel;go_enter Tryz.func45,Tryz.ntmps45;go_wp2_with(first
 |((with_reducible refine Zd 3 ?_);refine Yp T.out 54 _ (vs) rfl rfl rfl ?_;intro wn g0 tn;have T:=Hh tn;clear tn;have c0_0:=(T.out.get 0 rfl).nthQ 0 H0.out;have c0_1:=(T.out.get 0 rfl).nthQ 1 H1.out;have c0_8:=(T.out.get 0 rfl).nthQ 8 H8.out)
 |(go_at_call 56;refine(P1.out _ _ _ _ _ T.out rfl rfl).mono ?_;rintro e wn ⟨rfl,tn⟩;have T:=Hh tn;clear tn;have c0_0:=(T.out.get 0 rfl).nthQ 0 H0.out;have c0_1:=(T.out.get 0 rfl).nthQ 1 H1.out;have c0_8:=(T.out.get 0 rfl).nthQ 8 H8.out)
 |((with_reducible refine Zd 21 ?_);refine Zr 49 _ g0 (2) (sv) (RS.out _ _ _ (T.out.get 0 rfl)) Vr (by rw[HSV.out];exact Ve) rfl rfl rfl ?_)
 |(go_at_call 77;refine(P2.out _ _ T.out).mono ?_;rintro e wn ⟨rfl,tn⟩;have T:=Hh tn;clear tn;have c0_0:=(T.out.get 0 rfl).nthQ 0 H0.out;have c0_1:=(T.out.get 0 rfl).nthQ 1 H1.out;have c0_8:=(T.out.get 0 rfl).nthQ 8 H8.out))
 go_end0
 exact⟨rfl,T.out.tail⟩
theorem pEx_3(w0:World)(n sd tk tl:Int)(sv:List Value)(z:Value)(hsv:sv.length=6)(KS:List ByteArray)(hsel:Xz w0 77 (.agg sv.toArray) KS):Xz w0 45 (.agg (Vu 3 n sv sd tk tl z).toArray) ([⟨#[115,117,109]⟩]++KS):=by
 intro b st own x h hr;obtain⟨s1,E1⟩:∃ s,s=Zs st ([⟨#[115,117,109]⟩]):=⟨_,rfl⟩
 have R1:=Hh (Yw.first hr);replace hr:=Yw.next hr;rw[←E1]at hr;obtain⟨s2,E2⟩:∃ s,s=Zs s1 (KS):=⟨_,rfl⟩
 have R2:=Hh hr;clear hr;have EK:Zs st (([⟨#[115,117,109]⟩])++((KS)))=s2:=by simp only[Yl,E1,E2]
 rw[EK];clear EK;have P1:=Hh (fun own x=>Wh (w0:=w0) (b:=b) E1 R1.out (by simp) own x);have P2:=Hh (hsel.at_ (b:=b) E2 R2.out);have HE1:=Hh E1;clear E1;have HE2:=Hh E2;clear E2;obtain⟨l12,a0,a1,a8,rs,rt⟩:=Zbq (k:=3) (n:=n) (sd:=sd) (tk:=tk) (tl:=tl) (z:=z) hsv;have HSV:=Hh hsv;have H0:=Hh a0;have H1:=Hh a1;have H8:=Hh a8;have RS:=Hh rs;have RT:=Hh rt;generalize Vu 3 n sv sd tk tl z=vs at *;clear l12 a0 a1 a8 rs rt hsv;have T:=Hh h;clear h;clear hsel;go_enter Tryz.func45,Tryz.ntmps45;go_wp2_with(first
 |((with_reducible refine Zd 3 ?_);refine Yp T.out 54 _ (vs) rfl rfl rfl ?_;intro wn g0 tn;have T:=Hh tn;clear tn;have c0_0:=(T.out.get 0 rfl).nthQ 0 H0.out;have c0_1:=(T.out.get 0 rfl).nthQ 1 H1.out;have c0_8:=(T.out.get 0 rfl).nthQ 8 H8.out)
 |(go_at_call 56;refine(P1.out _ _ _ _ _ T.out rfl rfl).mono ?_;rintro e wn ⟨rfl,tn⟩;have T:=Hh tn;clear tn;have c0_0:=(T.out.get 0 rfl).nthQ 0 H0.out;have c0_1:=(T.out.get 0 rfl).nthQ 1 H1.out;have c0_8:=(T.out.get 0 rfl).nthQ 8 H8.out)
 |((with_reducible refine Zd 30 ?_);refine Zr 49 _ g0 (2) (sv) (RS.out _ _ _ (T.out.get 0 rfl)) Vr (by rw[HSV.out];exact Ve) rfl rfl rfl ?_)
 |(go_at_call 77;refine(P2.out _ _ T.out).mono ?_;rintro e wn ⟨rfl,tn⟩;have T:=Hh tn;clear tn;have c0_0:=(T.out.get 0 rfl).nthQ 0 H0.out;have c0_1:=(T.out.get 0 rfl).nthQ 1 H1.out;have c0_8:=(T.out.get 0 rfl).nthQ 8 H8.out))
 go_end0
 exact⟨rfl,T.out.tail⟩
theorem pEx_4(w0:World)(n sd tk tl:Int)(sv:List Value)(z:Value)(hsv:sv.length=6)  : Xz w0 45 (.agg (Vu 4 n sv sd tk tl z).toArray) ([⟨#[114,111,117,110,100]⟩]):=by
 intro b st own x h hr;obtain⟨s1,E1⟩:∃ s,s=Zs st ([⟨#[114,111,117,110,100]⟩]):=⟨_,rfl⟩
 have R1:=Hh hr;clear hr;have EK:Zs st (([⟨#[114,111,117,110,100]⟩]))=s1:=by simp only[Yl,E1]
 rw[EK];clear EK;have P1:=Hh (fun own x=>Wh (w0:=w0) (b:=b) E1 R1.out (by simp) own x);have HE1:=Hh E1;clear E1;obtain⟨l12,a0,a1,a8,rs,rt⟩:=Zbq (k:=4) (n:=n) (sd:=sd) (tk:=tk) (tl:=tl) (z:=z) hsv;have HSV:=Hh hsv;have H0:=Hh a0;have H1:=Hh a1;have H8:=Hh a8;have RS:=Hh rs;have RT:=Hh rt;generalize Vu 4 n sv sd tk tl z=vs at *;clear l12 a0 a1 a8 rs rt hsv;have T:=Hh h;clear h;go_enter Tryz.func45,Tryz.ntmps45;go_wp2_with(first
 |((with_reducible refine Zd 3 ?_);refine Yp T.out 54 _ (vs) rfl rfl rfl ?_;intro wn g0 tn;have T:=Hh tn;clear tn;have c0_0:=(T.out.get 0 rfl).nthQ 0 H0.out;have c0_1:=(T.out.get 0 rfl).nthQ 1 H1.out;have c0_8:=(T.out.get 0 rfl).nthQ 8 H8.out)
 |(go_at_call 56;refine(P1.out _ _ _ _ _ T.out rfl rfl).mono ?_;rintro e wn ⟨rfl,tn⟩;have T:=Hh tn;clear tn;have c0_0:=(T.out.get 0 rfl).nthQ 0 H0.out;have c0_1:=(T.out.get 0 rfl).nthQ 1 H1.out;have c0_8:=(T.out.get 0 rfl).nthQ 8 H8.out))
 go_end0
 exact⟨rfl,T.out.tail⟩
theorem pEx_5(w0:World)(n sd tk tl:Int)(sv:List Value)(z:Value)(hsv:sv.length=6)(h1:1≤sd)(h2:sd≤3):Xz w0 45 (.agg (Vu 5 n sv sd tk tl z).toArray) ([⟨#[104,97,110,100]⟩,wd Zg sd]):=by
 intro b st own x h hr;obtain⟨s1,E1⟩:∃ s,s=Zs st ([⟨#[104,97,110,100]⟩,wd Zg sd]):=⟨_,rfl⟩
 have R1:=Hh hr;clear hr;have EK:Zs st (([⟨#[104,97,110,100]⟩,wd Zg sd]))=s1:=by simp only[Yl,E1]
 rw[EK];clear EK;have P1:=Hh (fun own x=>Wh (w0:=w0) (b:=b) E1 R1.out (by simp) own x);have HE1:=Hh E1;clear E1;obtain⟨l12,a0,a1,a8,rs,rt⟩:=Zbq (k:=5) (n:=n) (sd:=sd) (tk:=tk) (tl:=tl) (z:=z) hsv;have HSV:=Hh hsv;have H0:=Hh a0;have H1:=Hh a1;have H8:=Hh a8;have RS:=Hh rs;have RT:=Hh rt;generalize Vu 5 n sv sd tk tl z=vs at *;clear l12 a0 a1 a8 rs rt hsv;have T:=Hh h;clear h;go_enter Tryz.func45,Tryz.ntmps45;go_wp2_with(first
 |((with_reducible refine Zd 3 ?_);refine Yp T.out 54 _ (vs) rfl rfl rfl ?_;intro wn g0 tn;have T:=Hh tn;clear tn;have c0_0:=(T.out.get 0 rfl).nthQ 0 H0.out;have c0_1:=(T.out.get 0 rfl).nthQ 1 H1.out;have c0_8:=(T.out.get 0 rfl).nthQ 8 H8.out)
 |(go_at_call 78;(with_reducible refine(Zie T.out (sd) (h1) (h2)).mono ?_);rintro e wn ⟨rfl,tn⟩;have T:=Hh tn;clear tn;have c0_0:=(T.out.get 0 rfl).nthQ 0 H0.out;have c0_1:=(T.out.get 0 rfl).nthQ 1 H1.out;have c0_8:=(T.out.get 0 rfl).nthQ 8 H8.out)
 |(go_at_call 56;refine(P1.out _ _ _ _ _ T.out rfl rfl).mono ?_;rintro e wn ⟨rfl,tn⟩;have T:=Hh tn;clear tn;have c0_0:=(T.out.get 0 rfl).nthQ 0 H0.out;have c0_1:=(T.out.get 0 rfl).nthQ 1 H1.out;have c0_8:=(T.out.get 0 rfl).nthQ 8 H8.out))
 go_end0
 exact⟨rfl,T.out.tail⟩
theorem pEx_6(w0:World)(n sd tk tl:Int)(sv:List Value)(z:Value)(hsv:sv.length=6)(KT:List ByteArray)(h1:1≤sd)(h2:sd≤3)(hto:Xz w0 79 (.agg ([I J tk,I J tl]:List Value).toArray) KT):Xz w0 45 (.agg (Vu 6 n sv sd tk tl z).toArray) ([⟨#[102,114,101,101]⟩,wd Zg sd]++KT):=by
 intro b st own x h hr;obtain⟨s1,E1⟩:∃ s,s=Zs st ([⟨#[102,114,101,101]⟩,wd Zg sd]):=⟨_,rfl⟩
 have R1:=Hh (Yw.first hr);replace hr:=Yw.next hr;rw[←E1]at hr;obtain⟨s2,E2⟩:∃ s,s=Zs s1 (KT):=⟨_,rfl⟩
 have R2:=Hh hr;clear hr;have EK:Zs st (([⟨#[102,114,101,101]⟩,wd Zg sd])++((KT)))=s2:=by simp only[Yl,E1,E2]
 rw[EK];clear EK;have P1:=Hh (fun own x=>Wh (w0:=w0) (b:=b) E1 R1.out (by simp) own x);have P2:=Hh (hto.at_ (b:=b) E2 R2.out);have HE1:=Hh E1;clear E1;have HE2:=Hh E2;clear E2;obtain⟨l12,a0,a1,a8,rs,rt⟩:=Zbq (k:=6) (n:=n) (sd:=sd) (tk:=tk) (tl:=tl) (z:=z) hsv;have HSV:=Hh hsv;have H0:=Hh a0;have H1:=Hh a1;have H8:=Hh a8;have RS:=Hh rs;have RT:=Hh rt;generalize Vu 6 n sv sd tk tl z=vs at *;clear l12 a0 a1 a8 rs rt hsv;have T:=Hh h;clear h;clear hto;go_enter Tryz.func45,Tryz.ntmps45;go_wp2_with(first
 |((with_reducible refine Zd 3 ?_);refine Yp T.out 54 _ (vs) rfl rfl rfl ?_;intro wn g0 tn;have T:=Hh tn;clear tn;have c0_0:=(T.out.get 0 rfl).nthQ 0 H0.out;have c0_1:=(T.out.get 0 rfl).nthQ 1 H1.out;have c0_8:=(T.out.get 0 rfl).nthQ 8 H8.out)
 |(go_at_call 78;(with_reducible refine(Zie T.out (sd) (h1) (h2)).mono ?_);rintro e wn ⟨rfl,tn⟩;have T:=Hh tn;clear tn;have c0_0:=(T.out.get 0 rfl).nthQ 0 H0.out;have c0_1:=(T.out.get 0 rfl).nthQ 1 H1.out;have c0_8:=(T.out.get 0 rfl).nthQ 8 H8.out)
 |(go_at_call 56;refine(P1.out _ _ _ _ _ T.out rfl rfl).mono ?_;rintro e wn ⟨rfl,tn⟩;have T:=Hh tn;clear tn;have c0_0:=(T.out.get 0 rfl).nthQ 0 H0.out;have c0_1:=(T.out.get 0 rfl).nthQ 1 H1.out;have c0_8:=(T.out.get 0 rfl).nthQ 8 H8.out)
 |((with_reducible refine Zd 55 ?_);refine Zr 51 _ g0 (9) ([I J tk,I J tl]) (RT.out _ _ _ (T.out.get 0 rfl)) Zfq Zdk rfl rfl rfl ?_)
 |(go_at_call 79;refine(P2.out _ _ T.out).mono ?_;rintro e wn ⟨rfl,tn⟩;have T:=Hh tn;clear tn;have c0_0:=(T.out.get 0 rfl).nthQ 0 H0.out;have c0_1:=(T.out.get 0 rfl).nthQ 1 H1.out;have c0_8:=(T.out.get 0 rfl).nthQ 8 H8.out))
 go_end0
 exact⟨rfl,T.out.tail⟩
theorem pEx_7(w0:World)(vs:List Value)(hvl:vs.length=12)(h0:vs[0]?=some (I J 7))(KB:List ByteArray)(hb:Xz w0 80 (.agg vs.toArray) KB):Xz w0 45 (.agg vs.toArray) KB:=by
 intro b st own x h hr;obtain⟨s1,E1⟩:∃ s,s=Zs st (KB):=⟨_,rfl⟩
 have R1:=Hh hr;clear hr;have EK:Zs st ((KB))=s1:=by simp only[Yl,E1]
 rw[EK];clear EK;have P1:=Hh (hb.at_ (b:=b) E1 R1.out);have HE1:=Hh E1;clear E1;have HVL:=Hh hvl;have H0:=Hh h0;clear hb hvl h0;have T:=Hh h;clear h;go_enter Tryz.func45,Tryz.ntmps45;go_wp2_with(first
 |((with_reducible refine Zd 3 ?_);refine Yp T.out 54 _ (vs) rfl rfl rfl ?_;intro wn g0 tn;have T:=Hh tn;clear tn;have c0_0:=(T.out.get 0 rfl).nthQ 0 H0.out)
 |((with_reducible refine Zd 60 ?_);refine Zb 54 _ 54 g0 (vs) (T.out.get 0 rfl) Xm (by rw[HVL.out];exact Yz) rfl rfl rfl ?_)
 |(go_at_call 80;refine(P1.out _ _ T.out).mono ?_;rintro e wn ⟨rfl,tn⟩;have T:=Hh tn;clear tn;have c0_0:=(T.out.get 0 rfl).nthQ 0 H0.out))
 go_end0
 exact⟨rfl,T.out.tail⟩
theorem pEx(w0:World)(N:Nat→Prop):∀(x:Ex),VEx x→∀ vs,Zt N w0 x.ds vs→Xz w0 45 (.agg vs.toArray) (kEx x)
 |.leaf k n s sd tk tl,hv,vs,hd=>by
  obtain⟨_,rfl,_,rfl,h⟩:=hd;obtain⟨sv,_,rfl,hs,h⟩:=Zt.split (x:=s.ds) h;obtain⟨_,rfl,_,rfl,_,rfl,C,kc,xs,_,rfl,_,_,_,rfl⟩:=h;have e:sv.length=6:=by rw[hs.len,Se.ds_len]
  show Xz w0 _ _ (kLeaf k n s sd tk tl);unfold kLeaf;rcases hv with⟨rfl,hn,_⟩ | ⟨hk,_,vs,_⟩ | ⟨rfl,_⟩ | ⟨rfl,_,_,hsd,_⟩ | ⟨rfl,_,_,hsd,ht⟩
  ·rw[if_pos rfl]
   exact pEx_1 w0 n sd tk tl sv _ e hn.1 hn.2
  ·rcases hk with rfl | rfl
   ·rw[if_neg (by decide),if_pos (.inl rfl)]
    exact pEx_2 w0 n sd tk tl sv _ e _ (pSel w0 N s vs sv hs)
   ·rw[if_neg (by decide),if_pos (.inr rfl)]
    exact pEx_3 w0 n sd tk tl sv _ e _ (pSel w0 N s vs sv hs)
  ·rw[if_neg (by decide),if_neg (by decide),if_pos rfl]
   exact pEx_4 w0 n sd tk tl sv _ e
  ·rw[if_neg (by decide),if_neg (by decide),if_neg (by decide),if_pos rfl]
   exact pEx_5 w0 n sd tk tl sv _ e hsd.1 hsd.2
  ·rw[if_neg (by decide),if_neg (by decide),if_neg (by decide),if_neg (by decide)]
   exact pEx_6 w0 n sd tk tl sv _ e _ hsd.1 hsd.2 (pTo w0 tk tl ht)
 |.bin op l r,hv,vs,hd=>by
  obtain⟨hl,v0,v1,_⟩:=bin_vals hd;exact pEx_7 w0 vs hl v0 _ (pBinary w0 N op l r hv.1.1 hv.1.2 hv.2.1 hv.2.2 (pEx w0 N l hv.2.1) (pEx w0 N r hv.2.2) vs hd)
end Go.Proofs.YtdngkgickbaboaaGreat
