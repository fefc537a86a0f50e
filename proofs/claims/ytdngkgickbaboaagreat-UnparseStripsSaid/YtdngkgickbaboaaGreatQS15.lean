/-
  No conditions but those that each theorem names.
-/
import Derived.Great.Walk
import Derived.RegionTactic
import Derived.Test.YtdngkgickbaboaaGreatQS14
set_option maxRecDepth 20000
set_option maxHeartbeats 12800000
namespace Go.Proofs.YtdngkgickbaboaaGreat
open Go.ChangeShapes Go.WideShapes Go.ChangeAt Go.RowKit
set_option linter.unusedVariables false
set_option linter.unusedSimpArgs false
theorem exprs_all:∀ n m:Nat,m≤n→ExprOK m∧ProdOK m∧FactOK m:=by
 intro n;induction n with
 |zero=>
  intro m hm;obtain rfl:m=0:=by omega
  exact⟨fun w q c r K L st h hn _=>absurd hn (by omega),fun w q c r K L st h hn _=>absurd hn (by omega),fun w q c r K L st h hn _=>absurd hn (by omega)⟩
 |succ n ih=>
  intro m hm;by_cases e:m≤n
  ·exact ih m e
  ·obtain rfl:m=n+1:=by omega
   exact⟨xexpr n fun k hk=>(ih k hk).2.1,xproduct n fun k hk=>(ih k hk).2.2,xfact n (ih n (Nat.le_refl _)).1⟩
theorem xexprs(w:World)(q c r K:Nat)(L:List TokV)(st:St)(n:Nat)(h:PAt w q c r K L st)(hn:4*Zu L st+3≤n)(hLn:Zu L st≤68719476736) :
 Calls Tryz.prog 43 #[.pointer (some ⟨q,0,none⟩)] w (Ut w q c r K L (Yd 5 L n st).2 (Yd 5 L n st).1.ds):=(exprs_all n n (Nat.le_refl _)).1 w q c r K L st h hn hLn
def condV(cop:Int)(cl cr:List Value):List Value:=.int .i64 cop::(cl++cr)
def Yi(k l c:Int)(sel num:List Value)(sd tk tl how:Int)(nm:ByteArray)(cop:Int)(cl cr:List Value)(thn els:Value):List Value:=
 .int .i64 k::.int .i64 l::.int .i64 c::(sel++(num++(.int .i64 sd::.int .i64 tk::.int .i64 tl::.int .i64 how::.string nm::.int .i64 cop::(cl++(cr++[thn,els])))))
def AH.dsr(h:AH)(tn:Nat)(t:Ds)(en:Nat)(e:Ds):Ds:=
 .int h.kind (.int h.line (.int h.col (h.sel.ds.app (h.num.ds.app (.int h.side (.int h.tk (.int h.tl (.int h.how (.str h.name (.int h.cop (h.cl.ds.app (h.cr.ds.app (.row tn t (.row en e .nil))))))))))))))
def Acs.ds:Acs→Ds
 |.nil=>.nil
 |.cons h t e r=>(h.dsr t.len t.ds e.len e.ds).app r.ds
theorem AH.dsr_len(h:AH)(tn:Nat)(t:Ds)(en:Nat)(e:Ds):(h.dsr tn t en e).len=53:=by
 simp only[AH.dsr,Ds.len,Ds.len_app,Ex.ds_len,Se.ds_len]
theorem Xj{N:Nat→Prop}{w:World}(k l c sd tk tl how cop:Int)(nm:ByteArray){s:Se}{e x y:Ex}{sel num cl cr:List Value}(h1:Zn N w s.ds sel)(h2:Zn N w e.ds num)(h3:Zn N w x.ds cl)(h4:Zn N w y.ds cr)
  {tn en:Nat}{t u:Ds}{thn els:Value}(h5:Zn N w (.row tn t .nil) [thn])(h6:Zn N w (.row en u .nil) [els]) :
  Zn N w ((⟨k,l,c,s,e,sd,tk,tl,how,nm,cop,x,y⟩:AH).dsr tn t en u) (Yi k l c sel num sd tk tl how nm cop cl cr thn els):=by
 have h7:Zn N w (.row tn t (.row en u .nil)) [thn,els]:=Zn.app (x:=.row tn t .nil) h6 h5;have a2:=Zn.app (Zn.app h7 h4) h3;have a3:Zn N w (.int sd (.int tk (.int tl (.int how (.str nm (.int cop (x.ds.app (y.ds.app (.row tn t (.row en u .nil)))))))))) (.int .i64 sd::.int .i64 tk::.int .i64 tl::.int .i64 how::.string nm::.int .i64 cop::(cl++(cr++[thn,els]))):=⟨_,rfl,_,rfl,_,rfl,_,rfl,_,rfl,_,rfl,a2⟩
 exact⟨_,rfl,_,rfl,_,rfl,Zn.app (Zn.app a3 h2) h1⟩
theorem Yj(N:Nat→Prop)(w:World):Zn N w (.row 0 .nil .nil) [.slice none 0 0]:=⟨none,0,[],[],rfl,⟨Nat.zero_le _,Nat.le_refl _⟩,.inl rfl,rfl,rfl⟩
theorem Xu:(Tryz.prog.underlying 58).map TypeDesc.isRow=some true:=by kernel_rfl
theorem Zkb:(Tryz.prog.info? 58).map (·.size)=some 53:=by kernel_rfl
theorem Yv{vs:List Value}(h:vs.length=53):(Tryz.prog.info? 58).map (·.size)=some vs.length:=by rw[h];exact Zkb
theorem Zeg:(Tryz.prog.info? 44).map (·.size)=some 1:=by kernel_rfl
def zexL:List Value:=[.int .i64 0,.int .i64 0,.int .i64 0,.int .i64 0,.int .i64 0,.int .i64 0,.slice none 0 0,.int .i64 0,.int .i64 0,.int .i64 0,.int .i64 0,.slice none 0 0]
def zseL:List Value:=[.int .i64 0,.int .i64 0,.int .i64 0,.int .i64 0,.slice none 0 0,.int .i64 0]
def Vy:List Value:=Yi 0 0 0 zseL zexL 0 0 0 0 ⟨#[]⟩ 0 zexL zexL (.slice none 0 0) (.slice none 0 0)
theorem Zw(N:Nat→Prop)(w:World):Zn N w zEx.ds zexL:=zEx_deep N w
theorem Uh(N:Nat→Prop)(w:World):Zn N w zSe.ds zseL:=Xq N w
section
variable {P:Program} {ops:Array Oper} {rest:List Oper} {o:Oper} {a:Act} {w:World} {Q:Exit→Act→World→Prop}
theorem Zfg(T:TypeId)(x y:Operand)(t:TypeId)(g:Nat){k l c:Int}{sel num:List Value}{sd tk tl how:Int}{nm:ByteArray}{cop:Int}{cl cr:List Value}{thn els:Value}{ys:List Value}(hW:Zf w g t (Yi k l c sel num sd tk tl how nm cop cl cr thn els).toArray)(e1:sel.length=6)(hy1:ys.length=6)(hi:(P.info? T).map (·.size)=some 6)(h1:∀ v ∈ ys,v.oneCell'=true)
  (hgd:o.guard=none)(ho:o.op=.store T x y)(hd:o.dst=none)(hx:a.eval x=.pointer (some ⟨g,3,none⟩))(hy:a.eval y=.agg ys.toArray)
  (h:∀ w',Put w w' g t (Yi k l c ys num sd tk tl how nm cop cl cr thn els)→wpList P ops Q rest a w'):wpList P ops Q (o::rest) a w:=
 Xf T x y t g 3 ([.int .i64 k,.int .i64 l,.int .i64 c]) (sel) (num++([.int .i64 sd,.int .i64 tk,.int .i64 tl,.int .i64 how,.string nm,.int .i64 cop]++(cl++(cr++[thn,els])))) ys (by simpa[Yi,condV]using hW) (by simp[hy1,e1]) (by simp[e1]) (by rw[hy1];exact hi) h1 hgd ho hd hx hy
  fun w' p=>h w' ⟨by simpa[Yi,condV]using p.whole,p.keeps⟩
theorem Zij(T:TypeId)(x y:Operand)(t:TypeId)(g:Nat){k l c:Int}{sel num:List Value}{sd tk tl how:Int}{nm:ByteArray}{cop:Int}{cl cr:List Value}{thn els:Value}{ys:List Value}(hW:Zf w g t (Yi k l c sel num sd tk tl how nm cop cl cr thn els).toArray)(e1:sel.length=6)(e2:num.length=12)(hy1:ys.length=12)(hi:(P.info? T).map (·.size)=some 12)(h1:∀ v ∈ ys,v.oneCell'=true)
  (hgd:o.guard=none)(ho:o.op=.store T x y)(hd:o.dst=none)(hx:a.eval x=.pointer (some ⟨g,9,none⟩))(hy:a.eval y=.agg ys.toArray)
  (h:∀ w',Put w w' g t (Yi k l c sel ys sd tk tl how nm cop cl cr thn els)→wpList P ops Q rest a w'):wpList P ops Q (o::rest) a w:=
 Xf T x y t g 9 ([.int .i64 k,.int .i64 l,.int .i64 c]++sel) (num) ([.int .i64 sd,.int .i64 tk,.int .i64 tl,.int .i64 how,.string nm,.int .i64 cop]++(cl++(cr++[thn,els]))) ys (by simpa[Yi,condV]using hW) (by simp[hy1,e1,e2]) (by simp[e1,e2]) (by rw[hy1];exact hi) h1 hgd ho hd hx hy
  fun w' p=>h w' ⟨by simpa[Yi,condV]using p.whole,p.keeps⟩
theorem Zlp(T:TypeId)(x y:Operand)(t:TypeId)(g:Nat){k l c:Int}{sel num:List Value}{sd tk tl how:Int}{nm:ByteArray}{cop:Int}{cl cr:List Value}{thn els:Value}{v:Int}(hW:Zf w g t (Yi k l c sel num sd tk tl how nm cop cl cr thn els).toArray)(e1:sel.length=6)(e2:num.length=12)(hi:(P.info? T).map (·.size)=some 1)(h1:(.int .i64 v:Value).oneCell'=true)
  (hgd:o.guard=none)(ho:o.op=.store T x y)(hd:o.dst=none)(hx:a.eval x=.pointer (some ⟨g,21,none⟩))(hy:a.eval y=.int .i64 v)
  (h:∀ w',Put w w' g t (Yi k l c sel num v tk tl how nm cop cl cr thn els)→wpList P ops Q rest a w'):wpList P ops Q (o::rest) a w:=
 Zj T x y t g 21 ([.int .i64 k,.int .i64 l,.int .i64 c]++sel++num) (.int .i64 sd) (.int .i64 v) ([.int .i64 tk,.int .i64 tl,.int .i64 how,.string nm,.int .i64 cop]++(cl++(cr++[thn,els]))) (by simpa[Yi]using hW) (by simp[e1,e2]) hi h1 hgd ho hd hx hy
  fun w' p=>h w' ⟨by simpa[Yi]using p.whole,p.keeps⟩
theorem put_how(T:TypeId)(x y:Operand)(t:TypeId)(g:Nat){k l c:Int}{sel num:List Value}{sd tk tl how:Int}{nm:ByteArray}{cop:Int}{cl cr:List Value}{thn els:Value}{v:Int}(hW:Zf w g t (Yi k l c sel num sd tk tl how nm cop cl cr thn els).toArray)(e1:sel.length=6)(e2:num.length=12)(hi:(P.info? T).map (·.size)=some 1)(h1:(.int .i64 v:Value).oneCell'=true)
  (hgd:o.guard=none)(ho:o.op=.store T x y)(hd:o.dst=none)(hx:a.eval x=.pointer (some ⟨g,24,none⟩))(hy:a.eval y=.int .i64 v)
  (h:∀ w',Put w w' g t (Yi k l c sel num sd tk tl v nm cop cl cr thn els)→wpList P ops Q rest a w'):wpList P ops Q (o::rest) a w:=
 Zj T x y t g 24 ([.int .i64 k,.int .i64 l,.int .i64 c]++sel++num++[.int .i64 sd,.int .i64 tk,.int .i64 tl]) (.int .i64 how) (.int .i64 v) ([.string nm,.int .i64 cop]++(cl++(cr++[thn,els]))) (by simpa[Yi]using hW) (by simp[e1,e2]) hi h1 hgd ho hd hx hy
  fun w' p=>h w' ⟨by simpa[Yi]using p.whole,p.keeps⟩
theorem put_nm(T:TypeId)(x y:Operand)(t:TypeId)(g:Nat){k l c:Int}{sel num:List Value}{sd tk tl how:Int}{nm:ByteArray}{cop:Int}{cl cr:List Value}{thn els:Value}{v:ByteArray}(hW:Zf w g t (Yi k l c sel num sd tk tl how nm cop cl cr thn els).toArray)(e1:sel.length=6)(e2:num.length=12)(hi:(P.info? T).map (·.size)=some 1)(h1:(.string v:Value).oneCell'=true)
  (hgd:o.guard=none)(ho:o.op=.store T x y)(hd:o.dst=none)(hx:a.eval x=.pointer (some ⟨g,25,none⟩))(hy:a.eval y=.string v)
  (h:∀ w',Put w w' g t (Yi k l c sel num sd tk tl how v cop cl cr thn els)→wpList P ops Q rest a w'):wpList P ops Q (o::rest) a w:=
 Zj T x y t g 25 ([.int .i64 k,.int .i64 l,.int .i64 c]++sel++num++[.int .i64 sd,.int .i64 tk,.int .i64 tl,.int .i64 how]) (.string nm) (.string v) ([.int .i64 cop]++(cl++(cr++[thn,els]))) (by simpa[Yi]using hW) (by simp[e1,e2]) hi h1 hgd ho hd hx hy
  fun w' p=>h w' ⟨by simpa[Yi]using p.whole,p.keeps⟩
theorem put_to(T:TypeId)(x y:Operand)(t:TypeId)(g:Nat){k l c:Int}{sel num:List Value}{sd tk tl how:Int}{nm:ByteArray}{cop:Int}{cl cr:List Value}{thn els:Value}{u v:Int}(hW:Zf w g t (Yi k l c sel num sd tk tl how nm cop cl cr thn els).toArray)(e1:sel.length=6)(e2:num.length=12)(hi:(P.info? T).map (·.size)=some 2)
  (hgd:o.guard=none)(ho:o.op=.store T x y)(hd:o.dst=none)(hx:a.eval x=.pointer (some ⟨g,22,none⟩))(hy:a.eval y=.agg #[.int .i64 u,.int .i64 v])
  (h:∀ w',Put w w' g t (Yi k l c sel num sd u v how nm cop cl cr thn els)→wpList P ops Q rest a w'):wpList P ops Q (o::rest) a w:=
 Xf T x y t g 22 ([.int .i64 k,.int .i64 l,.int .i64 c]++sel++num++[.int .i64 sd]) ([.int .i64 tk,.int .i64 tl]) ([.int .i64 how,.string nm,.int .i64 cop]++(cl++(cr++[thn,els]))) [.int .i64 u,.int .i64 v] (by simpa[Yi]using hW) rfl (by simp[e1,e2]) hi (by simp[Value.oneCell']) hgd ho hd hx hy
  fun w' p=>h w' ⟨by simpa[Yi]using p.whole,p.keeps⟩
theorem put_thn(T:TypeId)(x y:Operand)(t:TypeId)(g:Nat){k l c:Int}{sel num:List Value}{sd tk tl how:Int}{nm:ByteArray}{cop:Int}{cl cr:List Value}{thn els:Value}{v:Value}(hW:Zf w g t (Yi k l c sel num sd tk tl how nm cop cl cr thn els).toArray)(e1:sel.length=6)(e2:num.length=12)(e3:cl.length=12)(e4:cr.length=12)(hi:(P.info? T).map (·.size)=some 1)(h1:(v:Value).oneCell'=true)
  (hgd:o.guard=none)(ho:o.op=.store T x y)(hd:o.dst=none)(hx:a.eval x=.pointer (some ⟨g,51,none⟩))(hy:a.eval y=v)
  (h:∀ w',Put w w' g t (Yi k l c sel num sd tk tl how nm cop cl cr v els)→wpList P ops Q rest a w'):wpList P ops Q (o::rest) a w:=
 Zj T x y t g 51 ([.int .i64 k,.int .i64 l,.int .i64 c]++sel++num++[.int .i64 sd,.int .i64 tk,.int .i64 tl,.int .i64 how,.string nm,.int .i64 cop]++cl++cr) (thn) (v) ([els]) (by simpa[Yi]using hW) (by simp[e1,e2,e3,e4]) hi h1 hgd ho hd hx hy
  fun w' p=>h w' ⟨by simpa[Yi]using p.whole,p.keeps⟩
theorem put_els(T:TypeId)(x y:Operand)(t:TypeId)(g:Nat){k l c:Int}{sel num:List Value}{sd tk tl how:Int}{nm:ByteArray}{cop:Int}{cl cr:List Value}{thn els:Value}{v:Value}(hW:Zf w g t (Yi k l c sel num sd tk tl how nm cop cl cr thn els).toArray)(e1:sel.length=6)(e2:num.length=12)(e3:cl.length=12)(e4:cr.length=12)(hi:(P.info? T).map (·.size)=some 1)(h1:(v:Value).oneCell'=true)
  (hgd:o.guard=none)(ho:o.op=.store T x y)(hd:o.dst=none)(hx:a.eval x=.pointer (some ⟨g,52,none⟩))(hy:a.eval y=v)
  (h:∀ w',Put w w' g t (Yi k l c sel num sd tk tl how nm cop cl cr thn v)→wpList P ops Q rest a w'):wpList P ops Q (o::rest) a w:=
 Zj T x y t g 52 ([.int .i64 k,.int .i64 l,.int .i64 c]++sel++num++[.int .i64 sd,.int .i64 tk,.int .i64 tl,.int .i64 how,.string nm,.int .i64 cop]++cl++cr++[thn]) (els) (v) ([]) (by simpa[Yi]using hW) (by simp[e1,e2,e3,e4]) hi h1 hgd ho hd hx hy
  fun w' p=>h w' ⟨by simpa[Yi]using p.whole,p.keeps⟩
end
theorem fold_fill:∀(l:List Value)(k:Nat)(cs:Array Value),cs.size=k+l.length→(l.zipIdx k).foldl (fun cs x=>cs.setIfInBounds (0+x.2) x.1) cs=(cs.toList.take k++l).toArray
 |[],k,cs,h=>by
  rw[List.length_nil,Nat.add_zero]at h;have:cs.toList.take k=cs.toList:=List.take_of_length_le (by rw[Array.length_toList,h];exact Nat.le_refl k);simp[this]
 |v::l,k,cs,h=>by
  rw[List.length_cons]at h;rw[List.zipIdx_cons,List.foldl_cons];dsimp only;rw[Nat.zero_add,fold_fill l (k+1) (cs.setIfInBounds k v) (by simp;omega)];congr 1
  rw[show v::l=[v]++l from rfl,←List.append_assoc];congr 1
  rw[Array.toList_setIfInBounds];apply List.ext_getElem?;intro i;rw[List.getElem?_take,List.getElem?_append,List.getElem?_take,List.getElem?_set,List.length_take,Array.length_toList];have hm:min k cs.size=k:=by omega
  rw[hm];by_cases h1:i<k
  ·rw[if_pos (by omega),if_neg (by omega),if_pos h1,if_pos h1]
  ·by_cases h2:i=k
   ·subst h2
    rw[if_pos (by omega),if_pos rfl,if_pos (by omega),if_neg (by omega)];simp
   ·rw[if_neg (by omega),if_neg h1]
    simp;omega
theorem built_one{P:Program}{e:TypeId}{vs:List Value}{sz:Nat}{z:Value}{bytes:Nat}(hinfo:(P.info? e).map (fun i=>(i.zero,i.size,i.bytes))=some (some z,sz,bytes))(hl:vs.length=sz)(hp:0<sz)(hs:sz≤1000):P.builtSlice e 1 [(0,.agg vs.toArray)]=some vs.toArray:=by
 obtain⟨i,hi,hz,hsize,hbytes⟩:=info_parts hinfo;unfold Program.builtSlice;rw[hi];dsimp only;rw[hz];dsimp only;rw[hsize,if_neg (by omega)];unfold Instr.fill;dsimp only;have hv:(Value.agg vs.toArray).cells=vs.toArray:=rfl;rw[hv];have hc:((Array.range (1*sz)).map (z.cells[· % z.cells.size]!)).size=0+vs.length:=by simp[hl]
 rw[if_neg (by simp[hl])];unfold Instr.fill;have:=fold_fill vs 0 _ hc;simp only[Nat.zero_mul];rw[show vs.toArray.zipIdx=(vs.zipIdx 0).toArray from by simp];rw[List.foldl_toArray']
 ·rw[this];simp
 ·simp
theorem Zaj{P:Program}{ops:Array Oper}{rest:List Oper}{o:Oper}{a:Act}{w:World}{Q:Exit→Act→World→Prop}(t e:TypeId)(x:Operand)(d:Tmp)(sz bytes:Nat)(z:Value)(vs:List Value)
  (hinfo:(P.info? e).map (fun i=>(i.zero,i.size,i.bytes))=some (some z,sz,bytes))(hl:vs.length=sz)(hp:0<sz)(hs:sz≤1000)(hu:P.underlying t=some (.slice e))
  (hg:o.guard=none)(ho:o.op=.buildSlice t 1 #[(0,x)])(hd:o.dst=some d)(hx:a.eval x=.agg vs.toArray)
  (h:wpList P ops Q rest (a.put (some d) (.slice (some ⟨w.heap.size,0,none⟩) 1 1)) (w.alloc (.cells vs.toArray e))):wpList P ops Q (o::rest) a w:=
 Great.wpList_buildSliceTo hg t e 1 #[(0,x)] ho w.heap.size rfl (some d) hd hu vs.toArray (by simpa[hx]using built_one hinfo hl hp hs) h
section
variable {P:Program} {ops:Array Oper} {rest:List Oper} {o:Oper} {a:Act} {w:World} {Q:Exit→Act→World→Prop}
end
def AO.ds(x:AO):Ds:=x.h.dsr x.thn.len x.thn.ds x.els.len x.els.ds
theorem Zn.slice{N:Nat→Prop}{w:World}{n:Nat}{ds:Ds}{v:Value}(h:Zn N w (.row n ds .nil) [v]):∃ A c,v=.slice A n c:=by
 obtain⟨A,c,xs,t,e,_⟩:=h;injection e with e1;exact⟨A,c,e1⟩
def AH.tail(h:AH)(tn:Nat)(t:Ds)(en:Nat)(e:Ds):Ds:=
 h.sel.ds.app (h.num.ds.app (.int h.side (.int h.tk (.int h.tl (.int h.how (.str h.name (.int h.cop (h.cl.ds.app (h.cr.ds.app (.row tn t (.row en e .nil)))))))))))
theorem Acs.ds_app(y:Acs):∀ x:Acs,(x.app y).ds=x.ds.app y.ds
 |.nil=>rfl
 |.cons h t e r=>by
  show(h.dsr t.len t.ds e.len e.ds).app (r.app y).ds=((h.dsr t.len t.ds e.len e.ds).app r.ds).app y.ds;rw[Acs.ds_app y r,Ds.app_assoc]
structure RowD(w:World)(q c r K:Nat)(L:List TokV)(e:TypeId)(sz:Nat)(st:St)(n:Nat)(ds:Ds)(xs:List Value)(v:Value)(wr:World):Prop where
 row:Zhg w q c r K L e sz st n xs v wr
 deep:Zn (fun k=>w.heap.size≤k∧v.ownBlock≠some k) wr ds xs
def Zfm(q c:Nat)(wr x:World):Prop:=Zq (fun k=>(k=q∨k=c)∨wr.heap.size≤k) wr x
theorem Zfm.start(q c:Nat)(w:World):Zfm q c w w:=Zq.refl _ _
theorem Zfm.move{q c r K:Nat}{L:List TokV}{st:St}{wr x y:World}(h:Zfm q c wr x)(m:Xx x y q c r K L st):Zfm q c wr y:=Zq.trans h (m.keeps.mono fun k hk=>.inl hk)
theorem Zfm.next{q c:Nat}{wr x y:World}(h:Zfm q c wr x)(hb:Below x.heap.size x y):Zfm q c wr y:=Zq.trans h (Zq.of_below hb)
theorem Zfm.put{q c:Nat}{wr x y:World}(h:Zfm q c wr x){g:Nat}{t:TypeId}{vs:List Value}(p:Put x y g t vs)(hg:wr.heap.size≤g):Zfm q c wr y:=Zq.trans h (p.keeps.mono fun k hk=>.inr (hk ▸ hg))
theorem Zfm.drew{q c:Nat}{wr x:World}(h:Zfm q c wr x):Zfm q c wr x.drew:=Zq.drew h
theorem RowD.push{w x y:World}{q c r K n sz:Nat}{L:List TokV}{e:TypeId}{st:St}{ds es:Ds}{xs ys:List Value}{v v':Value}(h:RowD w q c r K L e sz st n ds xs v x)(ho:y.ownsRow w.heap.size e sz v' (n+1) (xs++ys))(hg:x.grownBy y v.ownBlock)(hat:v'.ownBlock=v.ownBlock∨v'.ownBlock=some x.heap.size)
  (d:Zn (fun k=>w.heap.size≤k∧v.ownBlock≠some k) x es ys):RowD w q c r K L e sz st (n+1) (ds.app es) (xs++ys) v' y:=by
 have hk:Zq (fun k=>v.ownBlock=some k) x y:=Zq.grown (Zq.refl _ _) hg fun k hk=>hk
 have hs:∀ k,k<x.heap.size→(w.heap.size≤k∧v.ownBlock≠some k)→¬(v.ownBlock=some k)∧(w.heap.size≤k∧v'.ownBlock≠some k):=fun k hk hn=>by
  refine⟨hn.2,hn.1,fun c=>?_⟩;rcases hat with e1 | e1
  ·rw[e1]at c;exact hn.2 c
  ·rw[e1]at c;injection c with c;omega
 exact⟨h.row.push ho hg,Zn.app (d.keeps hk hs) (h.deep.keeps hk hs)⟩
theorem Zf.set3L{w:World}{g:Nat}{t:TypeId}{a b c:Value}{l:List Value}(h:Zf w g t (a::b::c::l).toArray)(x y z:Value) :
  Put w (((w.setCell ⟨g,0,none⟩ x).setCell ⟨g,1,none⟩ y).setCell ⟨g,2,none⟩ z) g t (x::y::z::l):=by
 have h1:=Zf.setCells (g:=g) (t:=t) l [x,y,z] [a,b,c] [] w rfl h;exact⟨h1,Zq.setCells (S:=fun k=>k=g) (g:=g) rfl [x,y,z] 0 (Zq.refl _ w)⟩
theorem Zeo:Tryz.prog.underlying 44=some (.slice 58):=by kernel_rfl
def zact:Value:=.agg #[.int .i64 0,.int .i64 0,.int .i64 0,.int .i64 0,.int .i64 0,.int .i64 0,.int .i64 0,.slice none 0 0,.int .i64 0,.int .i64 0,.int .i64 0,.int .i64 0,.int .i64 0,.int .i64 0,.int .i64 0,.slice none 0 0,.int .i64 0,.int .i64 0,.int .i64 0,.int .i64 0,.slice none 0 0,.int .i64 0,.int .i64 0,.int .i64 0,.int .i64 0,.string ⟨#[]⟩,.int .i64 0,.int .i64 0,.int .i64 0,.int .i64 0,.int .i64 0,.int .i64 0,.int .i64 0,.slice none 0 0,.int .i64 0,.int .i64 0,.int .i64 0,.int .i64 0,.slice none 0 0,.int .i64 0,.int .i64 0,.int .i64 0,.int .i64 0,.int .i64 0,.int .i64 0,.slice none 0 0,.int .i64 0,.int .i64 0,.int .i64 0,.int .i64 0,.slice none 0 0,.slice none 0 0,.slice none 0 0]
theorem info_act:(Tryz.prog.info? 58).map (fun i=>(i.zero,i.size,i.bytes))=some (some zact,53,576):=by kernel_rfl
theorem acts_step(nk:Int)(L:List TokV)(m:Nat)(st:St)(h:¬ Zh L Vk st=0):Wj nk L (m+1) st =
  (.cons (Zaq nk L m (AH.zero (Zh L Vk st) (st.tok L).line (st.tok L).col) (Zh L Vk st) (Zz L Vk st)).h
     (Zaq nk L m (AH.zero (Zh L Vk st) (st.tok L).line (st.tok L).col) (Zh L Vk st) (Zz L Vk st)).thn
     (Zaq nk L m (AH.zero (Zh L Vk st) (st.tok L).line (st.tok L).col) (Zh L Vk st) (Zz L Vk st)).els
     (Wj nk L m (Zaq nk L m (AH.zero (Zh L Vk st) (st.tok L).line (st.tok L).col) (Zh L Vk st) (Zz L Vk st)).st).1,
    (Wj nk L m (Zaq nk L m (AH.zero (Zh L Vk st) (st.tok L).line (st.tok L).col) (Zh L Vk st) (Zz L Vk st)).st).2):=by
 rw[Wj,if_neg h]
theorem acts_stop(nk:Int)(L:List TokV)(m:Nat)(st:St)(h:Zh L Vk st=0):Wj nk L (m+1) st=(.nil,st):=by rw[Wj,if_pos h]
def Ru.ds(x:Ru):Ds:=.int x.when_ (.int x.stratum (.int x.line (.int x.col (.row x.acts.len x.acts.ds .nil))))
def Ur:List Ru→Ds
 |[]=>.nil
 |x::r=>x.ds.app (Ur r)
theorem Zjh(x:Ru):∀ l:List Ru,Ur (l++[x])=(Ur l).app x.ds
 |[]=>Ds.app_nil _
 |y::l=>by show y.ds.app (Ur (l++[x]))=(y.ds.app (Ur l)).app x.ds;rw[Zjh x l,Ds.app_assoc]
theorem Zdz:Tryz.prog.underlying 33=some (.slice 46):=by kernel_rfl
theorem Zks:(Tryz.prog.info? 46).map (fun i=>(i.zero,i.size,i.bytes))=some (some (.agg #[.int .i64 0,.int .i64 0,.int .i64 0,.int .i64 0,.slice none 0 0]),5,56):=by kernel_rfl
theorem row_ru:(Tryz.prog.underlying 46).map TypeDesc.isRow=some true:=by kernel_rfl
theorem Zeb:(Tryz.prog.info? 46).map (·.size)=some 5:=by kernel_rfl
theorem size_rus:(Tryz.prog.info? 33).map (·.size)=some 1:=by kernel_rfl
theorem row_ca:(Tryz.prog.underlying 35).map TypeDesc.isRow=some true:=by kernel_rfl
theorem Zfd:(Tryz.prog.info? 35).map (·.size)=some 6:=by kernel_rfl
theorem row_pl:(Tryz.prog.underlying 38).map TypeDesc.isRow=some true:=by kernel_rfl
theorem Zjz:(Tryz.prog.info? 38).map (·.size)=some 4:=by kernel_rfl
theorem rules_step(nk:Int)(L:List TokV)(m:Nat)(st:St)(h:¬ Zh L Xg st=0):Wp nk L (m+1) st =
 (⟨Zh L Xg st,Zld L (Zh L Xg st) (Zz L Xg st),(st.tok L).line,(st.tok L).col,(Wj nk L m (Zx L Ys (Zcd L (Zh L Xg st) (Zz L Xg st)))).1⟩ ::
    (Wp nk L m (Zx L Xi (Wj nk L m (Zx L Ys (Zcd L (Zh L Xg st) (Zz L Xg st)))).2)).1,
   (Wp nk L m (Zx L Xi (Wj nk L m (Zx L Ys (Zcd L (Zh L Xg st) (Zz L Xg st)))).2)).2):=by rw[Wp,if_neg h]
theorem rules_stop(nk:Int)(L:List TokV)(m:Nat)(st:St)(h:Zh L Xg st=0):Wp nk L (m+1) st=([],st):=by rw[Wp,if_pos h]
def Ca.ds(x:Ca):Ds:=.str x.name (.int x.cost (.int x.power (.int x.line (.int x.col (.row x.rules.length (Ur x.rules) .nil)))))
def Pl.ds(x:Pl):Ds:=.str x.name (.int x.line (.int x.col (.row x.rules.length (Ur x.rules) .nil)))
def Zaa:List Ca→Ds
 |[]=>.nil
 |x::r=>x.ds.app (Zaa r)
def Jx:List Pl→Ds
 |[]=>.nil
 |x::r=>x.ds.app (Jx r)
theorem casDs_snoc(x:Ca):∀ l:List Ca,Zaa (l++[x])=(Zaa l).app x.ds
 |[]=>Ds.app_nil _
 |y::l=>by show y.ds.app (Zaa (l++[x]))=(y.ds.app (Zaa l)).app x.ds;rw[casDs_snoc x l,Ds.app_assoc]
theorem plsDs_snoc(x:Pl):∀ l:List Pl,Jx (l++[x])=(Jx l).app x.ds
 |[]=>Ds.app_nil _
 |y::l=>by show y.ds.app (Jx (l++[x]))=(y.ds.app (Jx l)).app x.ds;rw[plsDs_snoc x l,Ds.app_assoc]
def Fi.ds(x:Fi):Ds:=.row x.cards.length (Zaa x.cards) (.row x.places.length (Jx x.places) .nil)
theorem Zgh:Tryz.prog.underlying 23=some (.slice 35):=by kernel_rfl
theorem Zgg:Tryz.prog.underlying 24=some (.slice 38):=by kernel_rfl
theorem info_ca:(Tryz.prog.info? 35).map (fun i=>(i.zero,i.size,i.bytes))=some (some (.agg #[.string ⟨#[]⟩,.int .i64 0,.int .i64 0,.int .i64 0,.int .i64 0,.slice none 0 0]),6,72):=by kernel_rfl
theorem info_pl:(Tryz.prog.info? 38).map (fun i=>(i.zero,i.size,i.bytes))=some (some (.agg #[.string ⟨#[]⟩,.int .i64 0,.int .i64 0,.slice none 0 0]),4,56):=by kernel_rfl
theorem size_cas:(Tryz.prog.info? 23).map (·.size)=some 1:=by kernel_rfl
theorem size_pls:(Tryz.prog.info? 24).map (·.size)=some 1:=by kernel_rfl
theorem Zlk:(Tryz.prog.underlying 26).map TypeDesc.isRow=some true:=by kernel_rfl
theorem Zfc:(Tryz.prog.info? 26).map (·.size)=some 2:=by kernel_rfl
theorem file_stop(nk:Int)(L:List TokV)(m:Nat)(st:St)(h:Zh L Xy st=0):Ve nk L (m+1) st=(⟨[],[]⟩,st):=by rw[Ve,if_pos h]
theorem file_card(nk:Int)(L:List TokV)(m:Nat)(st:St)(h:Zh L Xy st=1):Ve nk L (m+1) st =
 (⟨(Zcw nk L m (st.tok L).line (st.tok L).col (Zz L Xy st)).1::(Ve nk L m (Zcw nk L m (st.tok L).line (st.tok L).col (Zz L Xy st)).2).1.cards,
     (Ve nk L m (Zcw nk L m (st.tok L).line (st.tok L).col (Zz L Xy st)).2).1.places⟩,
   (Ve nk L m (Zcw nk L m (st.tok L).line (st.tok L).col (Zz L Xy st)).2).2):=by rw[Ve,if_neg (by omega),if_pos h]
theorem file_place(nk:Int)(L:List TokV)(m:Nat)(st:St)(h:Zh L Xy st=2):Ve nk L (m+1) st =
 (⟨(Ve nk L m (Zao nk L m (st.tok L).line (st.tok L).col (Zz L Xy st)).2).1.cards,
     (Zao nk L m (st.tok L).line (st.tok L).col (Zz L Xy st)).1::(Ve nk L m (Zao nk L m (st.tok L).line (st.tok L).col (Zz L Xy st)).2).1.places⟩,
   (Ve nk L m (Zao nk L m (st.tok L).line (st.tok L).col (Zz L Xy st)).2).2):=by rw[Ve,if_neg (by omega),if_neg (by omega)]
end Go.Proofs.YtdngkgickbaboaaGreat
