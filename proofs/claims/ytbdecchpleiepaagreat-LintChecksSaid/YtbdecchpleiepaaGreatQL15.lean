/- Parts of the proof. No conditions but those that each names. -/
import Derived.Test.YtbdecchpleiepaaGreatQL14
set_option maxRecDepth 20000
set_option maxHeartbeats 99000000
set_option linter.unusedVariables false
set_option linter.unusedSimpArgs false
namespace Go.Proofs.YtbdecchpleiepaaGreat
open Go.Value renaming int→I,slice→Λ,pointer→Ω,string→Ψ,oneCell'→Γ
open Go.IntKind renaming i64→J
open Nat renaming le_refl→Θ
open Go.ChangeShapes Go.WideShapes Go.ChangeAt Go.RowKit
def condV(cop:Int)(cl cr:List Value):List Value:=I J cop::(cl++cr)
def Ym(k l c:Int)(sel num:List Value)(sd tk tl how:Int)(nm:ByteArray)(cop:Int)(cl cr:List Value)(thn els:Value):List Value:=
 I J k::I J l::I J c::(sel++(num++(I J sd::I J tk::I J tl::I J how::Ψ nm::I J cop::(cl++(cr++[thn,els])))))
def AH.dsr(h:AH)(tn:Nat)(t:Ds)(en:Nat)(e:Ds):Ds:=
 .int h.kind (.int h.line (.int h.col (h.sel.ds.app (h.num.ds.app (.int h.side (.int h.tk (.int h.tl (.int h.how (.str h.name (.int h.cop (h.cl.ds.app (h.cr.ds.app (.row tn t (.row en e .nil))))))))))))))
def Acs.ds:Acs→Ds
 |.nil=>.nil
 |.cons h t e r=>(h.dsr t.len t.ds e.len e.ds).app r.ds
theorem AH.dsr_len(h:AH)(tn:Nat)(t:Ds)(en:Nat)(e:Ds):(h.dsr tn t en e).len=53:=by
 simp only[AH.dsr,Ds.len,Ds.len_app,Ex.ds_len,Se.ds_len]
theorem Xc{N:Nat→Prop}{w:World}(k l c sd tk tl how cop:Int)(nm:ByteArray){s:Se}{e x y:Ex}{sel num cl cr:List Value}(h1:Zs N w s.ds sel)(h2:Zs N w e.ds num)(h3:Zs N w x.ds cl)(h4:Zs N w y.ds cr)
  {tn en:Nat}{t u:Ds}{thn els:Value}(h5:Zs N w (.row tn t .nil) [thn])(h6:Zs N w (.row en u .nil) [els]) :
  Zs N w ((⟨k,l,c,s,e,sd,tk,tl,how,nm,cop,x,y⟩:AH).dsr tn t en u) (Ym k l c sel num sd tk tl how nm cop cl cr thn els):=by
 have h7:Zs N w (.row tn t (.row en u .nil)) [thn,els]:=Zs.app (x:=.row tn t .nil) h6 h5;have a2:=Zs.app (Zs.app h7 h4) h3;have a3:Zs N w (.int sd (.int tk (.int tl (.int how (.str nm (.int cop (x.ds.app (y.ds.app (.row tn t (.row en u .nil)))))))))) (I J sd::I J tk::I J tl::I J how::Ψ nm::I J cop::(cl++(cr++[thn,els]))):=⟨_,rfl,_,rfl,_,rfl,_,rfl,_,rfl,_,rfl,a2⟩
 exact⟨_,rfl,_,rfl,_,rfl,Zs.app (Zs.app a3 h2) h1⟩
theorem Yd(N:Nat→Prop)(w:World):Zs N w (.row 0 .nil .nil) [Λ none 0 0]:=⟨none,0,[],[],rfl,⟨Nat.zero_le _,Θ _⟩,.inl rfl,rfl,rfl⟩
theorem Xk:(Tryz.prog.underlying 85).map TypeDesc.isRow=some true:=by kernel_rfl
theorem size_act:(Tryz.prog.info? 85).map (·.size)=some 53:=by kernel_rfl
theorem Yn{vs:List Value}(h:vs.length=53):(Tryz.prog.info? 85).map (·.size)=some vs.length:=by rw[h];exact size_act
theorem Zdu:(Tryz.prog.info? 39).map (·.size)=some 1:=by kernel_rfl
def zexL:List Value:=[I J 0,I J 0,I J 0,I J 0,I J 0,I J 0,Λ none 0 0,I J 0,I J 0,I J 0,I J 0,Λ none 0 0]
def zseL:List Value:=[I J 0,I J 0,I J 0,I J 0,Λ none 0 0,I J 0]
def Vg:List Value:=Ym 0 0 0 zseL zexL 0 0 0 0 ⟨#[]⟩ 0 zexL zexL (Λ none 0 0) (Λ none 0 0)
theorem Zv(N:Nat→Prop)(w:World):Zs N w zEx.ds zexL:=zEx_deep N w
theorem Wn(N:Nat→Prop)(w:World):Zs N w zSe.ds zseL:=Zas N w
section
variable {P:Program} {ops:Array Oper} {rest:List Oper} {o:Oper} {a:Act} {w:World} {Q:Exit→Act→World→Prop}
theorem Zfz(T:TypeId)(x y:Operand)(t:TypeId)(g:Nat){k l c:Int}{sel num:List Value}{sd tk tl how:Int}{nm:ByteArray}{cop:Int}{cl cr:List Value}{thn els:Value}{ys:List Value}(hW:Zi w g t (Ym k l c sel num sd tk tl how nm cop cl cr thn els).toArray)(e1:sel.length=6)(hy1:ys.length=6)(hi:(P.info? T).map (·.size)=some 6)(h1:∀ v ∈ ys,v.oneCell'=true)
  (hgd:o.guard=none)(ho:o.op=.store T x y)(hd:o.dst=none)(hx:a.eval x=Ω (some ⟨g,3,none⟩))(hy:a.eval y=.agg ys.toArray)
  (h:∀ w',Put w w' g t (Ym k l c ys num sd tk tl how nm cop cl cr thn els)→wpList P ops Q rest a w'):wpList P ops Q (o::rest) a w:=
 Xs T x y t g 3 ([I J k,I J l,I J c]) (sel) (num++([I J sd,I J tk,I J tl,I J how,Ψ nm,I J cop]++(cl++(cr++[thn,els])))) ys (by simpa[Ym,condV]using hW) (by simp[hy1,e1]) (by simp[e1]) (by rw[hy1];exact hi) h1 hgd ho hd hx hy
  fun w' p=>h w' ⟨by simpa[Ym,condV]using p.whole,p.keeps⟩
theorem Zhk(T:TypeId)(x y:Operand)(t:TypeId)(g:Nat){k l c:Int}{sel num:List Value}{sd tk tl how:Int}{nm:ByteArray}{cop:Int}{cl cr:List Value}{thn els:Value}{ys:List Value}(hW:Zi w g t (Ym k l c sel num sd tk tl how nm cop cl cr thn els).toArray)(e1:sel.length=6)(e2:num.length=12)(hy1:ys.length=12)(hi:(P.info? T).map (·.size)=some 12)(h1:∀ v ∈ ys,v.oneCell'=true)
  (hgd:o.guard=none)(ho:o.op=.store T x y)(hd:o.dst=none)(hx:a.eval x=Ω (some ⟨g,9,none⟩))(hy:a.eval y=.agg ys.toArray)
  (h:∀ w',Put w w' g t (Ym k l c sel ys sd tk tl how nm cop cl cr thn els)→wpList P ops Q rest a w'):wpList P ops Q (o::rest) a w:=
 Xs T x y t g 9 ([I J k,I J l,I J c]++sel) (num) ([I J sd,I J tk,I J tl,I J how,Ψ nm,I J cop]++(cl++(cr++[thn,els]))) ys (by simpa[Ym,condV]using hW) (by simp[hy1,e1,e2]) (by simp[e1,e2]) (by rw[hy1];exact hi) h1 hgd ho hd hx hy
  fun w' p=>h w' ⟨by simpa[Ym,condV]using p.whole,p.keeps⟩
theorem Zks(T:TypeId)(x y:Operand)(t:TypeId)(g:Nat){k l c:Int}{sel num:List Value}{sd tk tl how:Int}{nm:ByteArray}{cop:Int}{cl cr:List Value}{thn els:Value}{v:Int}(hW:Zi w g t (Ym k l c sel num sd tk tl how nm cop cl cr thn els).toArray)(e1:sel.length=6)(e2:num.length=12)(hi:(P.info? T).map (·.size)=some 1)(h1:(I J v:Value).oneCell'=true)
  (hgd:o.guard=none)(ho:o.op=.store T x y)(hd:o.dst=none)(hx:a.eval x=Ω (some ⟨g,21,none⟩))(hy:a.eval y=I J v)
  (h:∀ w',Put w w' g t (Ym k l c sel num v tk tl how nm cop cl cr thn els)→wpList P ops Q rest a w'):wpList P ops Q (o::rest) a w:=
 Zp T x y t g 21 ([I J k,I J l,I J c]++sel++num) (I J sd) (I J v) ([I J tk,I J tl,I J how,Ψ nm,I J cop]++(cl++(cr++[thn,els]))) (by simpa[Ym]using hW) (by simp[e1,e2]) hi h1 hgd ho hd hx hy
  fun w' p=>h w' ⟨by simpa[Ym]using p.whole,p.keeps⟩
theorem put_how(T:TypeId)(x y:Operand)(t:TypeId)(g:Nat){k l c:Int}{sel num:List Value}{sd tk tl how:Int}{nm:ByteArray}{cop:Int}{cl cr:List Value}{thn els:Value}{v:Int}(hW:Zi w g t (Ym k l c sel num sd tk tl how nm cop cl cr thn els).toArray)(e1:sel.length=6)(e2:num.length=12)(hi:(P.info? T).map (·.size)=some 1)(h1:(I J v:Value).oneCell'=true)
  (hgd:o.guard=none)(ho:o.op=.store T x y)(hd:o.dst=none)(hx:a.eval x=Ω (some ⟨g,24,none⟩))(hy:a.eval y=I J v)
  (h:∀ w',Put w w' g t (Ym k l c sel num sd tk tl v nm cop cl cr thn els)→wpList P ops Q rest a w'):wpList P ops Q (o::rest) a w:=
 Zp T x y t g 24 ([I J k,I J l,I J c]++sel++num++[I J sd,I J tk,I J tl]) (I J how) (I J v) ([Ψ nm,I J cop]++(cl++(cr++[thn,els]))) (by simpa[Ym]using hW) (by simp[e1,e2]) hi h1 hgd ho hd hx hy
  fun w' p=>h w' ⟨by simpa[Ym]using p.whole,p.keeps⟩
theorem put_nm(T:TypeId)(x y:Operand)(t:TypeId)(g:Nat){k l c:Int}{sel num:List Value}{sd tk tl how:Int}{nm:ByteArray}{cop:Int}{cl cr:List Value}{thn els:Value}{v:ByteArray}(hW:Zi w g t (Ym k l c sel num sd tk tl how nm cop cl cr thn els).toArray)(e1:sel.length=6)(e2:num.length=12)(hi:(P.info? T).map (·.size)=some 1)(h1:(Ψ v:Value).oneCell'=true)
  (hgd:o.guard=none)(ho:o.op=.store T x y)(hd:o.dst=none)(hx:a.eval x=Ω (some ⟨g,25,none⟩))(hy:a.eval y=Ψ v)
  (h:∀ w',Put w w' g t (Ym k l c sel num sd tk tl how v cop cl cr thn els)→wpList P ops Q rest a w'):wpList P ops Q (o::rest) a w:=
 Zp T x y t g 25 ([I J k,I J l,I J c]++sel++num++[I J sd,I J tk,I J tl,I J how]) (Ψ nm) (Ψ v) ([I J cop]++(cl++(cr++[thn,els]))) (by simpa[Ym]using hW) (by simp[e1,e2]) hi h1 hgd ho hd hx hy
  fun w' p=>h w' ⟨by simpa[Ym]using p.whole,p.keeps⟩
theorem put_to(T:TypeId)(x y:Operand)(t:TypeId)(g:Nat){k l c:Int}{sel num:List Value}{sd tk tl how:Int}{nm:ByteArray}{cop:Int}{cl cr:List Value}{thn els:Value}{u v:Int}(hW:Zi w g t (Ym k l c sel num sd tk tl how nm cop cl cr thn els).toArray)(e1:sel.length=6)(e2:num.length=12)(hi:(P.info? T).map (·.size)=some 2)
  (hgd:o.guard=none)(ho:o.op=.store T x y)(hd:o.dst=none)(hx:a.eval x=Ω (some ⟨g,22,none⟩))(hy:a.eval y=.agg #[I J u,I J v])
  (h:∀ w',Put w w' g t (Ym k l c sel num sd u v how nm cop cl cr thn els)→wpList P ops Q rest a w'):wpList P ops Q (o::rest) a w:=
 Xs T x y t g 22 ([I J k,I J l,I J c]++sel++num++[I J sd]) ([I J tk,I J tl]) ([I J how,Ψ nm,I J cop]++(cl++(cr++[thn,els]))) [I J u,I J v] (by simpa[Ym]using hW) rfl (by simp[e1,e2]) hi (by simp[Γ]) hgd ho hd hx hy
  fun w' p=>h w' ⟨by simpa[Ym]using p.whole,p.keeps⟩
theorem put_thn(T:TypeId)(x y:Operand)(t:TypeId)(g:Nat){k l c:Int}{sel num:List Value}{sd tk tl how:Int}{nm:ByteArray}{cop:Int}{cl cr:List Value}{thn els:Value}{v:Value}(hW:Zi w g t (Ym k l c sel num sd tk tl how nm cop cl cr thn els).toArray)(e1:sel.length=6)(e2:num.length=12)(e3:cl.length=12)(e4:cr.length=12)(hi:(P.info? T).map (·.size)=some 1)(h1:(v:Value).oneCell'=true)
  (hgd:o.guard=none)(ho:o.op=.store T x y)(hd:o.dst=none)(hx:a.eval x=Ω (some ⟨g,51,none⟩))(hy:a.eval y=v)
  (h:∀ w',Put w w' g t (Ym k l c sel num sd tk tl how nm cop cl cr v els)→wpList P ops Q rest a w'):wpList P ops Q (o::rest) a w:=
 Zp T x y t g 51 ([I J k,I J l,I J c]++sel++num++[I J sd,I J tk,I J tl,I J how,Ψ nm,I J cop]++cl++cr) (thn) (v) ([els]) (by simpa[Ym]using hW) (by simp[e1,e2,e3,e4]) hi h1 hgd ho hd hx hy
  fun w' p=>h w' ⟨by simpa[Ym]using p.whole,p.keeps⟩
theorem put_els(T:TypeId)(x y:Operand)(t:TypeId)(g:Nat){k l c:Int}{sel num:List Value}{sd tk tl how:Int}{nm:ByteArray}{cop:Int}{cl cr:List Value}{thn els:Value}{v:Value}(hW:Zi w g t (Ym k l c sel num sd tk tl how nm cop cl cr thn els).toArray)(e1:sel.length=6)(e2:num.length=12)(e3:cl.length=12)(e4:cr.length=12)(hi:(P.info? T).map (·.size)=some 1)(h1:(v:Value).oneCell'=true)
  (hgd:o.guard=none)(ho:o.op=.store T x y)(hd:o.dst=none)(hx:a.eval x=Ω (some ⟨g,52,none⟩))(hy:a.eval y=v)
  (h:∀ w',Put w w' g t (Ym k l c sel num sd tk tl how nm cop cl cr thn v)→wpList P ops Q rest a w'):wpList P ops Q (o::rest) a w:=
 Zp T x y t g 52 ([I J k,I J l,I J c]++sel++num++[I J sd,I J tk,I J tl,I J how,Ψ nm,I J cop]++cl++cr++[thn]) (els) (v) ([]) (by simpa[Ym]using hW) (by simp[e1,e2,e3,e4]) hi h1 hgd ho hd hx hy
  fun w' p=>h w' ⟨by simpa[Ym]using p.whole,p.keeps⟩
end
open Go Go.RowKit Go.Great
theorem Zbo.reads{N:Nat→Prop}{w:World}{A:Option Addr}{xs:List Value}(h:Zbo N w A xs)(hx:0<xs.length):∃ g,A=some ⟨g,0,none⟩∧g<w.heap.size∧∀ j,j<xs.length→w.cell? ⟨g,j,none⟩=xs[j]?:=by
 rcases h with h | ⟨g,e,_,h2,h3⟩
 ·rw[h]at hx;cases hx
 ·exact⟨g,e,h2,h3⟩
theorem Zs.inRow{N:Nat→Prop}{w:World}{n:Nat}{ds:Ds}{v:Value}(h:Zs N w (.row n ds .nil) [v]):∃ A c xs,v=Λ A n c∧(n≤9223372036854775807∧n≤c)∧Zbo N w A xs∧Zs N w ds xs:=by
 obtain⟨A,c,xs,t,e,hn,hw,hd,_⟩:=h;injection e with e1 e2;exact⟨A,c,xs,e1,hn,hw,hd⟩
theorem Zs.inRow1{N:Nat→Prop}{w:World}{n:Nat}{ds:Ds}{vs:List Value}(h:Zs N w (.row n ds .nil) vs):∃ A c xs,vs=[Λ A n c]∧(n≤9223372036854775807∧n≤c)∧Zbo N w A xs∧Zs N w ds xs:=by
 obtain⟨A,c,xs,t,e,hn,hw,hd,ht⟩:=h;have ht:t=[]:=ht;exact⟨A,c,xs,by rw[e,ht],hn,hw,hd⟩
def Fl.vals(f:Fl):List Value:=[I J f.kind,I J f.op,I J f.n,Ψ f.name]
theorem fls_at{N:Nat→Prop}{w:World}:∀{l:List Fl}{xs:List Value},Zs N w (Znt l) xs→∀(k:Nat)(hk:k<l.length)(j:Nat),j<4→xs[k*4+j]?=(l[k]'hk).vals[j]?:=by
 intro l;induction l with
 |nil=>intro xs _ k hk;cases hk
 |cons f l ih=>
  intro xs h k hk j hj;obtain⟨_,rfl,_,rfl,_,rfl,xs,rfl,h⟩:=h;cases k with
  |zero=>
   rcases(show j=0∨j=1∨j=2∨j=3 by omega)with rfl | rfl | rfl | rfl<;>rfl
  |succ k=>
   have:=ih h k (by simpa using hk) j hj;rw[show(k+1)*4+j=(k*4+j)+4 by omega];simpa using this
theorem fls_len{N:Nat→Prop}{w:World}:∀{l:List Fl}{xs:List Value},Zs N w (Znt l) xs→xs.length=l.length*4:=by
 intro l;induction l with
 |nil=>intro xs h;cases h;rfl
 |cons f l ih=>
  intro xs h;obtain⟨_,rfl,_,rfl,_,rfl,xs,rfl,h⟩:=h;have:=ih h;simp only[List.length_cons];omega
theorem fil_at{N:Nat→Prop}{w:World}{A:Option Addr}{l:List Fl}{xs:List Value}(hw:Zbo N w A xs)(hd:Zs N w (Znt l) xs){k:Nat}(hk:k<l.length) :
  ∃ x,A=some x∧x.block<w.heap.size∧w.cell? (x.add (k*4))=some (I J (l[k]'hk).kind)∧w.cell? ⟨(x.add (k*4)).block,(x.add (k*4)).off+1,none⟩=some (I J (l[k]'hk).op) ∧
   w.cell? ⟨(x.add (k*4)).block,(x.add (k*4)).off+2,none⟩=some (I J (l[k]'hk).n)∧w.cell? ⟨(x.add (k*4)).block,(x.add (k*4)).off+3,none⟩=some (Ψ (l[k]'hk).name):=by
 have hl:=fls_len hd;obtain⟨g,hA,hg,hc⟩:=hw.reads (by omega)
 have key:∀ j,j<4→w.cell? (((⟨g,0,none⟩:Addr).add (k*4)).add j)=(l[k]'hk).vals[j]?:=fun j hj=>by
  rw[Addr.add_add,Addr.add_lit,Nat.zero_add,hc _ (by omega),fls_at hd k hk j hj]
 exact⟨⟨g,0,none⟩,hA,hg,key 0 (by omega),key 1 (by omega),key 2 (by omega),key 3 (by omega)⟩
def Acs.at?:Acs→Nat→Option (AH×Acs×Acs)
 |.nil,_=>none
 |.cons h t e _,0=>some (h,t,e)
 |.cons _ _ _ r,n+1=>r.at? n
theorem Acs.at_some:∀(x:Acs)(k:Nat),k<x.len→∃ u,x.at? k=some u
 |.nil,k,h=>absurd h (Nat.not_lt_zero k)
 |.cons h t e r,0,_=>⟨(h,t,e),rfl⟩
 |.cons h t e r,k+1,hk=>Acs.at_some r k (Nat.lt_of_succ_lt_succ hk)
theorem Acs.at_lt:∀(x:Acs)(k:Nat)(u:AH×Acs×Acs),x.at? k=some u→SizeOf.sizeOf u.2.1<SizeOf.sizeOf x∧SizeOf.sizeOf u.2.2<SizeOf.sizeOf x
 |.nil,k,u,h=>by cases h
 |.cons h t e r,0,u,hu=>by cases hu;simp only[Acs.cons.sizeOf_spec];omega
 |.cons h t e r,k+1,u,hu=>by have:=Acs.at_lt r k u hu;simp only[Acs.cons.sizeOf_spec];omega
theorem acs_at{N:Nat→Prop}{w:World}:∀{l:Acs}{xs:List Value},Zs N w l.ds xs→∀(k:Nat)(u:AH×Acs×Acs),l.at? k=some u→∃ pre ys post,xs=pre++ys++post∧pre.length=k*53∧Zs N w (u.1.dsr u.2.1.len u.2.1.ds u.2.2.len u.2.2.ds) ys:=by
 intro l;induction l with
 |nil=>intro xs _ k u hu;cases hu
 |cons f t e r _ _ ih=>
  intro xs h k u hu;obtain⟨a,b,rfl,ha,hb⟩:=Zs.split (x:=f.dsr t.len t.ds e.len e.ds) h;cases k with
  |zero=>cases hu;exact⟨[],a,b,rfl,by simp,ha⟩
  |succ k=>
   obtain⟨pre,ys,post,rfl,hp,hy⟩:=ih hb k u hu;refine⟨a++pre,ys,post,by simp,?_,hy⟩;rw[List.length_append,ha.len,AH.dsr_len,hp];omega
theorem Ut{w:World}{g sz:Nat}{pre ys post:List Value}(hc:∀ j,j<(pre++ys++post).length→w.cell? ⟨g,j,none⟩=(pre++ys++post)[j]?){k:Nat}(hp:pre.length=k*sz):w.rangeAt g (k*sz) ys:=fun j v hv=>by
 have hj:j<ys.length:=by rcases Nat.lt_or_ge j ys.length with h | h;exact h;rw[List.getElem?_eq_none h]at hv;cases hv
 have:=hc (k*sz+j) (by simp;omega);rw[this,←hp,List.append_assoc,List.getElem?_append_right (by omega),Nat.add_sub_cancel_left,List.getElem?_append_left hj,hv]
theorem act_at{N:Nat→Prop}{w:World}{A:Option Addr}{l:Acs}{xs:List Value}(hw:Zbo N w A xs)(hd:Zs N w l.ds xs){k:Nat}{u:AH×Acs×Acs}(hu:l.at? k=some u) :
  ∃ g ys,A=some ⟨g,0,none⟩∧g<w.heap.size∧w.rangeAt g (k*53) ys∧Zs N w (u.1.dsr u.2.1.len u.2.1.ds u.2.2.len u.2.2.ds) ys:=by
 obtain⟨pre,ys,post,rfl,hp,hy⟩:=acs_at hd k u hu;have hl:ys.length=53:=by rw[hy.len,AH.dsr_len]
 obtain⟨g,hA,hg,hc⟩:=hw.reads (by simp;omega);exact⟨g,ys,hA,hg,Ut hc hp,hy⟩
theorem Znd{N:Nat→Prop}{w:World}{h:AH}{tn en:Nat}{t e:Ds}{ys:List Value}(hd:Zs N w (h.dsr tn t en e) ys) :
  ∃ sel num cl cr thn els,ys=Ym h.kind h.line h.col sel num h.side h.tk h.tl h.how h.name h.cop cl cr thn els∧Zs N w h.sel.ds sel∧Zs N w h.num.ds num∧Zs N w h.cl.ds cl∧Zs N w h.cr.ds cr∧Zs N w (.row tn t .nil) [thn]∧Zs N w (.row en e .nil) [els]:=by
 obtain⟨_,rfl,_,rfl,_,rfl,k1⟩:=hd;obtain⟨sel,_,rfl,h1,k2⟩:=Zs.split (x:=h.sel.ds) k1;obtain⟨num,_,rfl,h2,k3⟩:=Zs.split (x:=h.num.ds) k2;obtain⟨_,rfl,_,rfl,_,rfl,_,rfl,_,rfl,_,rfl,k4⟩:=k3;obtain⟨cl,_,rfl,h3,k5⟩:=Zs.split (x:=h.cl.ds) k4;obtain⟨cr,_,rfl,h4,k6⟩:=Zs.split (x:=h.cr.ds) k5;obtain⟨a,b,rfl,h5,h6⟩:=Zs.split (x:=.row tn t .nil) k6;obtain⟨A,c,xs,rfl,_⟩:=id h5.inRow1;obtain⟨B,d,zs,rfl,_⟩:=id h6.inRow1;exact⟨sel,num,cl,cr,_,_,by simp[Ym],h1,h2,h3,h4,h5,h6⟩
theorem actV_at{k l c sd tk tl how cop:Int}{nm:ByteArray}{sel num cl cr:List Value}{thn els:Value}(e1:sel.length=6)(e2:num.length=12)(e3:cl.length=12)(e4:cr.length=12) :
  (Ym k l c sel num sd tk tl how nm cop cl cr thn els)[0]?=some (I J k)∧(Ym k l c sel num sd tk tl how nm cop cl cr thn els)[1]?=some (I J l)∧(Ym k l c sel num sd tk tl how nm cop cl cr thn els)[2]?=some (I J c) ∧
  (Ym k l c sel num sd tk tl how nm cop cl cr thn els)[21]?=some (I J sd)∧(Ym k l c sel num sd tk tl how nm cop cl cr thn els)[22]?=some (I J tk)∧(Ym k l c sel num sd tk tl how nm cop cl cr thn els)[23]?=some (I J tl) ∧
  (Ym k l c sel num sd tk tl how nm cop cl cr thn els)[24]?=some (I J how)∧(Ym k l c sel num sd tk tl how nm cop cl cr thn els)[25]?=some (Ψ nm)∧(Ym k l c sel num sd tk tl how nm cop cl cr thn els)[26]?=some (I J cop) ∧
  (Ym k l c sel num sd tk tl how nm cop cl cr thn els)[51]?=some thn∧(Ym k l c sel num sd tk tl how nm cop cl cr thn els)[52]?=some els:=by
 simp only[Ym];refine⟨?_,?_,?_,?_,?_,?_,?_,?_,?_,?_,?_⟩<;>simp[List.getElem?_append,e1,e2,e3,e4]
theorem Zeg:(Tryz.prog.info? 85).map (fun i=>i.zero.map Value.cells)=some (some Vg.toArray):=by kernel_rfl
end Go.Proofs.YtbdecchpleiepaaGreat
