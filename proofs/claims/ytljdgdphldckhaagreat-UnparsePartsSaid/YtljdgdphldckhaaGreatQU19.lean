/-
  No conditions but those that each theorem names.
-/
import Derived.Deep.MidRow
import Derived.Deep.RegionHeld3
import Derived.Great.Ranges
import Derived.Great.Walk
import Derived.StillTailTactics
import Derived.Laws.Concat
import Derived.Laws.Strings
import Derived.Deep.RegionWith
import Derived.Deep.DeepCutAuto
import Derived.Lib.Builder
import Derived.Lib.UnsafeStr
import Derived.Lib.Hide
import Derived.IntWalk
import Derived.Test.YtljdgdphldckhaaGreatQU18
set_option maxRecDepth 20000
set_option maxHeartbeats 12800000
namespace Go.Proofs.YtljdgdphldckhaaGreat
open Go Go.RowKit
set_option linter.unusedSimpArgs false
set_option linter.unusedVariables false
inductive Ds where
 |nil
 |int (n:Int) (r:Ds)
 |str (s:ByteArray) (r:Ds)
 |row (n:Nat) (cs r:Ds)
def Ds.app:Ds→Ds→Ds
 |.nil,y=>y
 |.int n r,y=>.int n (r.app y)
 |.str s r,y=>.str s (r.app y)
 |.row n cs r,y=>.row n cs (r.app y)
def Ds.len:Ds→Nat
 |.nil=>0
 |.int _ r=>r.len+1
 |.str _ r=>r.len+1
 |.row _ _ r=>r.len+1
theorem Ds.app_nil:∀ x:Ds,x.app .nil=x
 |.nil=>rfl
 |.int n r=>by rw[Ds.app,Ds.app_nil r]
 |.str s r=>by rw[Ds.app,Ds.app_nil r]
 |.row n cs r=>by rw[Ds.app,Ds.app_nil r]
theorem Ds.app_assoc(y z:Ds):∀ x:Ds,(x.app y).app z=x.app (y.app z)
 |.nil=>rfl
 |.int n r=>by rw[Ds.app,Ds.app,Ds.app,Ds.app_assoc y z r]
 |.str s r=>by rw[Ds.app,Ds.app,Ds.app,Ds.app_assoc y z r]
 |.row n cs r=>by rw[Ds.app,Ds.app,Ds.app,Ds.app_assoc y z r]
theorem Ds.len_app(y:Ds):∀ x:Ds,(x.app y).len=x.len+y.len
 |.nil=>by rw[Ds.app,Ds.len];omega
 |.int n r=>by rw[Ds.app,Ds.len,Ds.len,Ds.len_app y r];omega
 |.str s r=>by rw[Ds.app,Ds.len,Ds.len,Ds.len_app y r];omega
 |.row n cs r=>by rw[Ds.app,Ds.len,Ds.len,Ds.len_app y r];omega
def Zek(N:Nat→Prop)(w:World)(A:Option Addr)(xs:List Value):Prop:=
 xs=[]∨∃ g,A=some ⟨g,0,none⟩∧N g∧g<w.heap.size∧∀ j,j<xs.length→w.cell? ⟨g,j,none⟩=xs[j]?
def Zu(N:Nat→Prop)(w:World):Ds→List Value→Prop
 |.nil,vs=>vs=[]
 |.int n r,vs=>∃ t,vs=.int .i64 n::t∧Zu N w r t
 |.str s r,vs=>∃ t,vs=.string s::t∧Zu N w r t
 |.row n cs r,vs=>∃ A c xs t,vs=.slice A n c::t∧n≤9223372036854775807∧Zek N w A xs∧Zu N w cs xs∧Zu N w r t
theorem Zek.keeps{N M S:Nat→Prop}{w w':World}{A:Option Addr}{xs:List Value}(h:Zek N w A xs)(hk:Zx S w w')(hs:∀ k,k<w.heap.size→N k→¬ S k∧M k):Zek M w' A xs:=by
 rcases h with h | ⟨g,e,h1,h2,h3⟩
 ·exact .inl h
 ·exact .inr ⟨g,e,(hs g h2 h1).2,Nat.lt_of_lt_of_le h2 hk.size,fun j hj=>(World.cell?_of_block (a:=⟨g,j,none⟩) (hk.block g h2 (hs g h2 h1).1)).trans (h3 j hj)⟩
theorem Zu.keeps{N M S:Nat→Prop}{w w':World}(hk:Zx S w w')(hs:∀ k,k<w.heap.size→N k→¬ S k∧M k):∀{ds:Ds}{vs:List Value},Zu N w ds vs→Zu M w' ds vs
 |.nil,vs,h=>h
 |.int n r,vs,⟨t,e,h⟩=>⟨t,e,Zu.keeps hk hs h⟩
 |.str s r,vs,⟨t,e,h⟩=>⟨t,e,Zu.keeps hk hs h⟩
 |.row n cs r,vs,⟨A,c,xs,t,e,hn,h1,h2,h3⟩=>⟨A,c,xs,t,e,hn,h1.keeps hk hs,Zu.keeps hk hs h2,Zu.keeps hk hs h3⟩
theorem Zu.mono{N M:Nat→Prop}{w:World}{ds:Ds}{vs:List Value}(h:Zu N w ds vs)(hs:∀ k,k<w.heap.size→N k→M k):Zu M w ds vs:=
 h.keeps (S:=fun _=>False) (Zx.refl _ w) fun k hk hn=>⟨id,hs k hk hn⟩
theorem Zu.below{N:Nat→Prop}{w w':World}{ds:Ds}{vs:List Value}(h:Zu N w ds vs)(hb:Below w.heap.size w w'):Zu N w' ds vs:=
 h.keeps (S:=fun _=>False) (Zx.of_below hb) fun k _ hn=>⟨id,hn⟩
theorem Zu.len{N:Nat→Prop}{w:World}:∀{ds:Ds}{vs:List Value},Zu N w ds vs→vs.length=ds.len
 |.nil,vs,h=>by cases h;rfl
 |.int n r,vs,⟨t,e,h⟩=>by rw[e,List.length_cons,Zu.len h];rfl
 |.str s r,vs,⟨t,e,h⟩=>by rw[e,List.length_cons,Zu.len h];rfl
 |.row n cs r,vs,⟨A,c,xs,t,e,_,_,_,h⟩=>by rw[e,List.length_cons,Zu.len h];rfl
theorem Zu.one{N:Nat→Prop}{w:World}:∀{ds:Ds}{vs:List Value},Zu N w ds vs→∀ v ∈ vs,v.oneCell'=true
 |.nil,vs,h=>by cases h;intro v hv;cases hv
 |.int n r,vs,⟨t,e,h⟩=>by rw[e];intro v hv;rcases List.mem_cons.1 hv with rfl | hv;rfl;exact Zu.one h v hv
 |.str s r,vs,⟨t,e,h⟩=>by rw[e];intro v hv;rcases List.mem_cons.1 hv with rfl | hv;rfl;exact Zu.one h v hv
 |.row n cs r,vs,⟨A,c,xs,t,e,_,_,_,h⟩=>by rw[e];intro v hv;rcases List.mem_cons.1 hv with rfl | hv;rfl;exact Zu.one h v hv
theorem Zu.app{N:Nat→Prop}{w:World}{y:Ds}{us:List Value}(hy:Zu N w y us):∀{x:Ds}{vs:List Value},Zu N w x vs→Zu N w (x.app y) (vs++us)
 |.nil,vs,h=>by cases h;exact hy
 |.int n r,vs,⟨t,e,h⟩=>⟨t++us,by rw[e];rfl,Zu.app hy h⟩
 |.str s r,vs,⟨t,e,h⟩=>⟨t++us,by rw[e];rfl,Zu.app hy h⟩
 |.row n cs r,vs,⟨A,c,xs,t,e,hn,h1,h2,h⟩=>⟨A,c,xs,t++us,by rw[e];rfl,hn,h1,h2,Zu.app hy h⟩
theorem Zu.split{N:Nat→Prop}{w:World}{y:Ds}:∀{x:Ds}{vs:List Value},Zu N w (x.app y) vs→∃ a b,vs=a++b∧Zu N w x a∧Zu N w y b
 |.nil,vs,h=>⟨[],vs,rfl,rfl,h⟩
 |.int n r,vs,⟨t,e,h⟩=>by obtain⟨a,b,e2,h1,h2⟩:=Zu.split (x:=r) h;exact⟨.int .i64 n::a,b,by rw[e,e2];rfl,⟨a,rfl,h1⟩,h2⟩
 |.str s r,vs,⟨t,e,h⟩=>by obtain⟨a,b,e2,h1,h2⟩:=Zu.split (x:=r) h;exact⟨.string s::a,b,by rw[e,e2];rfl,⟨a,rfl,h1⟩,h2⟩
 |.row n cs r,vs,⟨A,c,xs,t,e,hn,g1,g2,h⟩=>by obtain⟨a,b,e2,h1,h2⟩:=Zu.split (x:=r) h;exact⟨.slice A n c::a,b,by rw[e,e2];rfl,⟨A,c,xs,a,rfl,hn,g1,g2,h1⟩,h2⟩
theorem Zlj{w:World}{base:Nat}{e:TypeId}{size:Nat}{v:Value}{n:Nat}{xs:List Value}(h:w.ownsRow base e size v n xs) :
  ∃ A c,v=.slice A n c∧n≤9223372036854775807∧Zek (fun k=>base≤k) w A xs:=by
 obtain⟨hl,h⟩:=id h;rcases h with⟨rfl,rfl⟩ | ⟨g,cap,cur,rfl,hb,hw,h1,h2,h3,h4⟩
 ·refine⟨none,0,rfl,by omega,.inl ?_⟩
  rw[Nat.zero_mul]at hl;exact List.length_eq_zero_iff.1 hl
 ·unfold maxLen at h2
  refine⟨some ⟨g,0,none⟩,cap,rfl,by omega,.inr ⟨g,rfl,hb,Zd.inside (cs:=cur) hw,fun j hj=>?_⟩⟩;rw[Zd.read (cs:=cur) hw j,←h4,List.getElem?_take];have hj':j<n*size:=by rw[←hl];exact hj
  rw[if_pos hj',Array.getElem?_toList]
theorem Zu.rowOf{N:Nat→Prop}{w:World}{base:Nat}{e:TypeId}{size:Nat}{v:Value}{n:Nat}{xs:List Value}{ds:Ds}(h:w.ownsRow base e size v n xs)(hb:∀ k,base≤k→N k)(hd:Zu N w ds xs) :
  Zu N w (.row n ds .nil) [v]:=by
 obtain⟨A,c,rfl,hn,hw⟩:=Zlj h;exact⟨A,c,xs,[],rfl,hn,hw.keeps (S:=fun _=>False) (Zx.refl _ w) (fun k _ hk=>⟨id,hb k hk⟩),hd,rfl⟩
theorem Zd.range{w:World}{g:Nat}{t:TypeId}{a b c:List Value}(h:Zd w g t (a++b++c).toArray):w.rangeAt g a.length b:=fun j v hv=>by
 have hj:j<b.length:=(List.getElem?_eq_some_iff.1 hv).1;rw[h.read,List.getElem?_toArray,List.getElem?_append_left (by rw[List.length_append];omega),List.getElem?_append_right (by omega),show a.length+j - a.length=j from by omega,hv]
theorem Zd.there{w:World}{g:Nat}{t:TypeId}{a b c:List Value}(h:Zd w g t (a++b++c).toArray):w.there g a.length b.length:=fun j hj=>
 ⟨h.range.isSome j hj,h.thawed _⟩
theorem Zd.setCells{g:Nat}{t:TypeId}(c:List Value):∀(y b a:List Value)(w:World),y.length=b.length→Zd w g t (a++b++c).toArray→Zd (w.setCells g a.length y) g t (a++y++c).toArray
 |[],b,a,w,hl,h=>by
  have:b=[]:=List.length_eq_zero_iff.1 (by rw[←hl];rfl);rw[this]at h;exact h
 |v::y,[],a,w,hl,h=>by cases hl
 |v::y,u::b,a,w,hl,h=>by
  rw[World.setCells];have h1:=h.write a.length v
  have e:(a++u::b++c).toArray.setIfInBounds a.length v=((a++[v])++b++c).toArray:=by
   simp[List.setIfInBounds_toArray,List.set_append_right]
  rw[e]at h1;have h2:=Zd.setCells c y b (a++[v]) _ (by rw[List.length_cons,List.length_cons]at hl;omega) h1;rw[List.length_append]at h2;have e2:(a++[v]++y++c).toArray=(a++v::y++c).toArray:=by simp
  rw[e2]at h2;exact h2
theorem Zx.setCells{S:Nat→Prop}{g:Nat}(hg:S g):∀(y:List Value)(o:Nat){a b:World},Zx S a b→Zx S a (b.setCells g o y)
 |[],_,_,_,h=>h
 |v::y,o,a,b,h=>Zx.setCells hg y (o+1) (h.setCell (p:=⟨g,o,none⟩) hg v)
theorem Ze{P:Program}{ops:Array Oper}{rest:List Oper}{op:Op}{t:TypeId}{ps:String}{af:Array Edge}{gd:Option (Nat×Bool)}{a:Act}{w:World}{Q:Exit→Act→World→Prop}(d:Nat)
 (h:wpList P ops Q (⟨some d,op,t,ps,af,gd⟩::rest) a w):wpList P ops Q (⟨some d,op,t,ps,af,gd⟩::rest) a w:=h
theorem Zi{P:Program}{ops:Array Oper}{rest:List Oper}{T:TypeId}{t:TypeId}{ps:String}{af:Array Edge}{gd:Option (Nat×Bool)}{a:Act}{w:World}{Q:Exit→Act→World→Prop}(x y:Nat)
 (h:wpList P ops Q (⟨none,.store T (.tmp x) (.tmp y),t,ps,af,gd⟩::rest) a w):wpList P ops Q (⟨none,.store T (.tmp x) (.tmp y),t,ps,af,gd⟩::rest) a w:=h
structure Put(w w':World)(g:Nat)(t:TypeId)(vs:List Value):Prop where
 whole:Zd w' g t vs.toArray
 keeps:Zx (fun k=>k=g) w w'
theorem Xn{P:Program}{ops:Array Oper}{rest:List Oper}{o:Oper}{a:Act}{w:World}{Q:Exit→Act→World→Prop}(T:TypeId)(x y:Operand)(t:TypeId)(g n:Nat)(pre old post ys:List Value)(hW:Zd w g t (pre++old++post).toArray)(hl:ys.length=old.length)
  (hpn:n=pre.length)(hi:(P.info? T).map (·.size)=some ys.length)(h1:∀ v ∈ ys,v.oneCell'=true)
  (hgd:o.guard=none)(ho:o.op=.store T x y)(hd:o.dst=none)
  (hx:a.eval x=.pointer (some ⟨g,n,none⟩))(hy:a.eval y=.agg ys.toArray)
  (h:∀ w',Put w w' g t (pre++ys++post)→wpList P ops Q rest a w'):wpList P ops Q (o::rest) a w:=by
 subst hpn;have ht:w.there g pre.length ys.length:=by rw[hl];exact hW.there
 refine wpList_store_mid hgd T x y ho g pre.length ys.toArray hx hy (by simpa using ht) (by simpa using hi) (all_oneCell_toArray h1) ?_;rw[hd];exact h _ ⟨Zd.setCells post ys old pre w hl hW,Zx.setCells (S:=fun k=>k=g) rfl _ _ (Zx.refl _ _)⟩
theorem Za{P:Program}{ops:Array Oper}{rest:List Oper}{o:Oper}{a:Act}{w:World}{Q:Exit→Act→World→Prop}(T:TypeId)(x y:Operand)(t:TypeId)(g:Nat)(old ys:List Value)(hW:Zd w g t old.toArray)(hl:ys.length=old.length)
  (hi:(P.info? T).map (·.size)=some ys.length)(h1:∀ v ∈ ys,v.oneCell'=true)
  (hgd:o.guard=none)(ho:o.op=.store T x y)(hd:o.dst=none)
  (hx:a.eval x=.pointer (some ⟨g,0,none⟩))(hy:a.eval y=.agg ys.toArray)
  (h:∀ w',Put w w' g t ys→wpList P ops Q rest a w'):wpList P ops Q (o::rest) a w:=
 Xn T x y t g 0 [] old [] ys (by simpa using hW) hl rfl hi h1 hgd ho hd hx hy fun w' p=>h w' ⟨by simpa using p.whole,p.keeps⟩
theorem Zo{P:Program}{ops:Array Oper}{rest:List Oper}{o:Oper}{a:Act}{w:World}{Q:Exit→Act→World→Prop}(T:TypeId)(x y:Operand)(t:TypeId)(g n:Nat)(pre:List Value)(old v:Value)(post:List Value)(hW:Zd w g t (pre++[old]++post).toArray)
  (hpn:n=pre.length)(hi:(P.info? T).map (·.size)=some 1)(h1:v.oneCell'=true)
  (hgd:o.guard=none)(ho:o.op=.store T x y)(hd:o.dst=none)
  (hx:a.eval x=.pointer (some ⟨g,n,none⟩))(hy:a.eval y=v)
  (h:∀ w',Put w w' g t (pre++[v]++post)→wpList P ops Q rest a w'):wpList P ops Q (o::rest) a w:=by
 subst hpn;refine wpList_plain hgd fun K hK=>?_
 have hc:v.cells=#[v]:=by cases v<;>first | rfl | cases h1
 have hst:(storeVar T ⟨g,pre.length,none⟩ v).run P w=.ok () (w.setCells g pre.length [v]):=by
  have:=run_storeCells_cells (P:=P) g pre.length [v] 0 w (fun j hj=>by simpa using(hW.there j hj).1) (fun j hj=>by simpa using(hW.there j hj).2) (fun u hu=>by simp at hu;rw[hu];exact h1);cases hq:P.info? T with
  |none=>simp[hq]at hi
  |some i=>
   have hs:i.size=1:=by simpa[hq]using hi
   simp only[Nat.add_zero]at this;simp[storeVar,sizeOf,typeInfo,hq,hc,hs,this]
 unfold Oper.wp execOp;simp only[ho,hx,hy,Instr.storeAt,Instr.sureAddr,Sem.run_bind,Sem.run_pure,Result.andThen_ok,hst];have hh:=hK _ _ (h _ ⟨Zd.setCells post [v] [old] pre w rfl hW,Zx.setCells (S:=fun k=>k=g) rfl _ _ (Zx.refl _ _)⟩);have e:a.put o.dst undef=a:=by rw[hd];rfl
 show K (a.put o.dst undef) _;rw[e];exact hh
theorem Vq{P:Program}{ops:Array Oper}{rest:List Oper}{o:Oper}{a:Act}{w:World}{Q:Exit→Act→World→Prop}(T:TypeId)(x:Operand)(t:TypeId)(g n:Nat)(pre vs post:List Value)(hW:Zd w g t (pre++vs++post).toArray)(hpn:n=pre.length)
  (hu:(P.underlying T).map TypeDesc.isRow=some true)(hi:(P.info? T).map (·.size)=some vs.length)
  (hgd:o.guard=none)(ho:o.op=.load T x)(hx:a.eval x=.pointer (some ⟨g,n,none⟩))
  (h:wpList P ops Q rest (a.put o.dst (.agg vs.toArray)) w):wpList P ops Q (o::rest) a w:=by
 subst hpn;obtain⟨d,hu,hr⟩:=Option.map_eq_some_iff.1 hu;exact wpList_load_mid hgd T x ho g pre.length hx vs d hW.range hu hr hi h
theorem Zb{P:Program}{ops:Array Oper}{rest:List Oper}{o:Oper}{a:Act}{w:World}{Q:Exit→Act→World→Prop}(T:TypeId)(x:Operand)(t:TypeId)(g:Nat)(vs:List Value)(hW:Zd w g t vs.toArray)
  (hu:(P.underlying T).map TypeDesc.isRow=some true)(hi:(P.info? T).map (·.size)=some vs.length)
  (hgd:o.guard=none)(ho:o.op=.load T x)(hx:a.eval x=.pointer (some ⟨g,0,none⟩))
  (h:wpList P ops Q rest (a.put o.dst (.agg vs.toArray)) w):wpList P ops Q (o::rest) a w:=
 Vq T x t g 0 [] vs [] (by simpa using hW) rfl hu hi hgd ho hx h
theorem Vp{P:Program}{w:World}{ops:Array Oper}{rest:List Oper}{o:Oper}{a:Act}{Q:Exit→Act→World→Prop}(s x:Operand)(t e:TypeId)(sz bytes:Nat)(z:Value)
  (ht:P.underlying t=some (.slice e))(hinfo:(P.info? e).map (fun i=>(i.zero,i.size,i.bytes))=some (some z,sz,bytes))(hzs:z.cells.size=sz)(hpos:0<sz)(hby:bytes≤1024)
  (base:Nat)(v:Value)(n:Nat)(xs news:List Value)(hown:w.ownsRow base e sz v n xs)(g:Nat)(hW:Zd w g e news.toArray)(hnl:news.length=sz)(h1:∀ u ∈ news,u.oneCell'=true)
  (hn:n≤68719476736)(hbase:base≤w.heap.size)
  (hgd:o.guard=none)(ho:o.op=.call { callee:=.builtin .append,args:=#[s,x],argTypes:=#[t,t] })(hs:a.eval s=v)(hx:a.eval x=.slice (some ⟨g,0,none⟩) 1 1)
  (h:∀ v' w',w'.ownsRow base e sz v' (n+1) (xs++news)→w.grownBy w' v.ownBlock→(v'.ownBlock=v.ownBlock∨v'.ownBlock=some w.heap.size)→wpList P ops Q rest (a.put o.dst v') w') :
  wpList P ops Q (o::rest) a w:=by
 obtain⟨i,hi,hz,hsize,hbytes⟩:=info_parts hinfo;refine wpList_append_own_at w hgd s x t ho base e i z sz bytes ht hi hz hsize hbytes hzs hpos v n xs hs hown ⟨g,0,none⟩ 1 1 news hx (by rw[hnl];omega) ?_ h1 (by unfold maxLen;omega) ?_ hbase ?_
 ·intro j u hj
  have hr:=hW.read j;have ha:(⟨g,0,none⟩:Addr).add j=⟨g,j,none⟩:=by simp[Addr.add];omega
  rw[ha,hr,←hj];simp
 ·have:(n+1)*bytes≤(n+1)*1024:=Nat.mul_le_mul_left _ hby
  omega
 ·intro v' w' ho' hg _ hat
  exact h v' w' ho' hg hat
theorem Wp{P:Program}{fn:Func}{R:Ending→World→Prop}{a:Act}{w:World}(s T:Nat)(t:TypeId)(g:Nat)(vs:List Value)(hres:fn.results=#[.cell s T])(hW:Zd w g t vs.toArray)
  (hu:(P.underlying T).map TypeDesc.isRow=some true)(hi:(P.info? T).map (·.size)=some vs.length)
  (hp:a.tmps.getD s undef=.pointer (some ⟨g,0,none⟩))(hd:a.defers=[])(hR:R (.returned (.agg vs.toArray)) w):bodyPost P fn R .ret a w:=by
 obtain⟨d,hu,hr⟩:=Option.map_eq_some_iff.1 hu;refine bodyPost_ret (v:=.agg vs.toArray) ?_ hd hR;have hl:=run_loadVar_mid (P:=P) w g 0 T vs d (by have:=Zd.range (a:=[]) (b:=vs) (c:=[]) (by simpa using hW);exact this) hu hr hi;have hp':a.tmps[s]?.getD undef=.pointer (some ⟨g,0,none⟩):=by simpa using hp
 simp[results,hres,hp',hl,asAddr,Sem.run_bind,Sem.run_pure]
open Go Go.RowKit Go.Great
abbrev Bk:=Nat×TypeId×List Value
structure Rw where
 v:Value
 e:TypeId
 sz:Nat
 n:Nat
 xs:List Value
def Free(w:World)(bs:List Bk)(rs:List Rw)(k:Nat):Prop:=w.heap.size≤k∧(∀ b ∈ bs,b.1≠k)∧∀ r ∈ rs,r.v.ownBlock≠some k
structure Env(w:World)(bs:List Bk)(rs:List Rw)(ts:List (Ds×List Value))(x:World):Prop where
 at_:∀ b ∈ bs,Zd x b.1 b.2.1 b.2.2.toArray
 lo:∀ b ∈ bs,w.heap.size≤b.1
 nod:(bs.map (·.1)).Nodup
 row:∀ r ∈ rs,x.ownsRow w.heap.size r.e r.sz r.v r.n r.xs
 apart:∀ r ∈ rs,∀ b ∈ bs,r.v.ownBlock≠some b.1
 rapart:rs.Pairwise fun a b=>∀ k,a.v.ownBlock=some k→b.v.ownBlock≠some k
 deep:∀ t ∈ ts,Zu (Free w bs rs) x t.1 t.2
 below:Below w.heap.size w x
section
variable {w x y:World} {bs:List Bk} {rs:List Rw} {ts:List (Ds×List Value)}
theorem Env.start(w:World):Env w [] [] [] w:=
 ⟨(fun _ h=>nomatch h),(fun _ h=>nomatch h),List.nodup_nil,(fun _ h=>nomatch h),(fun _ h=>nomatch h),List.Pairwise.nil,(fun _ h=>nomatch h),Below.refl _ _⟩
theorem Env.box(h:Env w bs rs ts x)(t:TypeId)(vs:List Value):Env w (bs++[(x.heap.size,t,vs)]) rs ts (x.alloc (.cells vs.toArray t)):=by
 have hk:Zx (fun _=>False) x (x.alloc (.cells vs.toArray t)):=Zx.of_below (Zh x _);refine⟨fun b hb=>?_,fun b hb=>?_,?_,fun r hr=>hk.owns (h.row r hr) (fun _ _=>id),fun r hr b hb=>?_,h.rapart,fun u hu=>?_,h.below.alloc h.below.size _⟩
 ·rcases List.mem_append.1 hb with hb | hb
  ·exact(h.at_ b hb).alloc _
  ·cases List.mem_singleton.1 hb;exact Zd.made x t vs.toArray
 ·rcases List.mem_append.1 hb with hb | hb
  ·exact h.lo b hb
  ·cases List.mem_singleton.1 hb;exact h.below.size
 ·rw[List.map_append,List.nodup_append]
  refine⟨h.nod,by simp,fun a ha b hb=>?_⟩;obtain⟨c,hc,rfl⟩:=List.mem_map.1 ha;simp at hb;subst hb;have:=(h.at_ c hc).inside;omega
 ·rcases List.mem_append.1 hb with hb | hb
  ·exact h.apart r hr b hb
  ·cases List.mem_singleton.1 hb
   intro c;have:=((h.row r hr).lt _ c).2;exact Nat.lt_irrefl _ this
 ·refine(h.deep u hu).keeps hk fun k hk hn=>⟨id,hn.1,fun b hb=>?_,hn.2.2⟩
  rcases List.mem_append.1 hb with hb | hb
  ·exact hn.2.1 b hb
  ·cases List.mem_singleton.1 hb
   show x.heap.size≠k;omega
theorem Env.call(h:Env w bs rs ts x)(b:Below x.heap.size x y):Env w bs rs ts y:=
 ⟨fun c hc=>(h.at_ c hc).below b (h.at_ c hc).inside,h.lo,h.nod,fun r hr=>(Zx.of_below (S:=fun _=>False) b).owns (h.row r hr) (fun _ _=>id),h.apart,h.rapart,fun t ht=>(h.deep t ht).below b,h.below.trans (b.mono h.below.size)⟩
theorem Env.tree(h:Env w bs rs ts x)(b:Below x.heap.size x y){ds:Ds}{vs:List Value}(d:Zu (fun k=>x.heap.size≤k) y ds vs):Env w bs rs (ts++[(ds,vs)]) y:=by
 have h':=h.call b;refine⟨h'.at_,h'.lo,h'.nod,h'.row,h'.apart,h'.rapart,fun u hu=>?_,h'.below⟩;rcases List.mem_append.1 hu with hu | hu
 ·exact h'.deep u hu
 ·cases List.mem_singleton.1 hu
  refine d.mono fun k hk hn=>⟨?_,fun c hc=>?_,fun r hr c=>?_⟩
  ·have:=h.below.size;omega
  ·have:=(h.at_ c hc).inside;omega
  ·have:=((h.row r hr).lt _ c).2;omega
theorem Env.drew(h:Env w bs rs ts x):Env w bs rs ts x.drew:=h.call ⟨rfl,rfl,rfl,Nat.le_refl _,fun _ _=>rfl⟩
theorem Env.drewN(h:Env w bs rs ts x)(n:Nat):Env w bs rs ts (x.drewN n):=h.call ⟨rfl,rfl,rfl,Nat.le_refl _,fun _ _=>rfl⟩
theorem Env.get(h:Env w bs rs ts x)(i:Nat){g:Nat}{t:TypeId}{vs:List Value}(hi:bs[i]?=some (g,t,vs)):Zd x g t vs.toArray:=
 h.at_ (g,t,vs) (List.mem_of_getElem? hi)
theorem Env.leaf(h:Env w bs rs ts x)(i:Nat){ds:Ds}{vs:List Value}(hi:ts[i]?=some (ds,vs)):Zu (fun k=>w.heap.size≤k) x ds vs:=
 (h.deep (ds,vs) (List.mem_of_getElem? hi)).mono fun k _ hn=>hn.1
theorem Zme{bs:List Bk}{i g:Nat}{t:TypeId}{old ys:List Value}(hi:bs[i]?=some (g,t,old)):(bs.set i (g,t,ys)).map (·.1)=bs.map (·.1):=by
 apply List.ext_getElem?;intro j;rw[List.getElem?_map,List.getElem?_map,List.getElem?_set];by_cases hj:i=j
 ·subst hj
  have hlt:=(List.getElem?_eq_some_iff.1 hi).1;rw[if_pos rfl,if_pos hlt,hi];rfl
 ·rw[if_neg hj]
theorem free_set{bs:List Bk}{rs:List Rw}{i g:Nat}{t:TypeId}{old ys:List Value}(hi:bs[i]?=some (g,t,old)){k:Nat}(h:Free w bs rs k):Free w (bs.set i (g,t,ys)) rs k:=by
 refine⟨h.1,fun b hb=>?_,h.2.2⟩;have:b.1 ∈ (bs.set i (g,t,ys)).map (·.1):=List.mem_map_of_mem hb;rw[Zme hi]at this;obtain⟨c,hc,e⟩:=List.mem_map.1 this;rw[←e];exact h.2.1 c hc
theorem Env.put(h:Env w bs rs ts x)(i:Nat){g:Nat}{t:TypeId}{old ys:List Value}(hi:bs[i]?=some (g,t,old))(p:Put x y g t ys):Env w (bs.set i (g,t,ys)) rs ts y:=by
 have hm:=Zme (ys:=ys) hi;have hmem:=List.mem_of_getElem? hi
 have hin:∀ b ∈ bs.set i (g,t,ys),∃ c ∈ bs,c.1=b.1:=fun b hb=>by
  have:b.1 ∈ (bs.set i (g,t,ys)).map (·.1):=List.mem_map_of_mem hb;rw[hm]at this;exact List.mem_map.1 this
 refine⟨fun b hb=>?_,fun b hb=>?_,by rw[hm];exact h.nod,fun r hr=>p.keeps.owns (h.row r hr) (fun k hk e=>?_),fun r hr b hb=>?_,h.rapart,fun u hu=>?_,h.below.trans (p.keeps.below h.below.size fun k e=>by rw[e];exact h.lo _ hmem)⟩
 ·obtain⟨j,hj,hb'⟩:=List.getElem_of_mem hb
  rw[List.getElem_set]at hb';rw[List.length_set]at hj;by_cases e:i=j
  ·rw[if_pos e]at hb'
   rw[←hb'];exact p.whole
  ·rw[if_neg e]at hb'
   rw[←hb'];refine p.keeps.whole (h.at_ _ (List.getElem_mem hj)) fun c=>e ?_
   obtain⟨hlt,hge⟩:=List.getElem?_eq_some_iff.1 hi;have h1:(bs.map (·.1))[i]'(by simpa using hlt)=(bs.map (·.1))[j]'(by simpa using hj):=by simp[hge,c]
   have hp:=List.pairwise_iff_getElem.1 h.nod;rcases Nat.lt_trichotomy i j with q | q | q
   ·exact absurd h1 (hp i j _ _ q)
   ·exact q
   ·exact absurd h1.symm (hp j i _ _ q)
 ·obtain⟨c,hc,e⟩:=hin b hb
  rw[←e];exact h.lo c hc
 ·exact h.apart r hr _ hmem (by rw[hk,e])
 ·obtain⟨c,hc,e⟩:=hin b hb
  rw[←e];exact h.apart r hr c hc
 ·exact(h.deep u hu).keeps p.keeps fun k _ hn=>⟨fun e=>hn.2.1 _ hmem e.symm,free_set hi hn⟩
theorem Env.push{v':Value}{e:TypeId}{sz n:Nat}{xs news:List Value}{v:Value}(h:Env w bs [⟨v,e,sz,n,xs⟩] ts x)(ho:y.ownsRow w.heap.size e sz v' (n+1) (xs++news))(hg:x.grownBy y v.ownBlock)
  (hat:v'.ownBlock=v.ownBlock∨v'.ownBlock=some x.heap.size):Env w bs [⟨v',e,sz,n+1,xs++news⟩] ts y:=by
 have hk:Zx (fun k=>v.ownBlock=some k) x y:=Zx.grown (Zx.refl _ _) hg fun k hk=>hk
 have hr:=h.row _ (List.mem_singleton.2 rfl);have ha:=h.apart _ (List.mem_singleton.2 rfl);refine⟨fun b hb=>hk.whole (h.at_ b hb) (ha b hb),h.lo,h.nod,fun r hr=>?_,fun r hr b hb=>?_,List.pairwise_singleton _ _,fun u hu=>?_,h.below.trans (hk.below h.below.size fun k e=>(hr.lt k e).1)⟩
 ·cases List.mem_singleton.1 hr;exact ho
 ·cases List.mem_singleton.1 hr
  rcases hat with e | e
  ·show v'.ownBlock≠_
   rw[e];exact ha b hb
  ·show v'.ownBlock≠_
   rw[e];intro c;have:=(h.at_ b hb).inside;injection c with c;omega
 ·refine(h.deep u hu).keeps hk fun k hk' hn=>⟨hn.2.2 _ (List.mem_singleton.2 rfl),hn.1,hn.2.1,fun r hr=>?_⟩
  cases List.mem_singleton.1 hr
  rcases hat with e | e
  ·show v'.ownBlock≠_
   rw[e];exact hn.2.2 _ (List.mem_singleton.2 rfl)
  ·show v'.ownBlock≠_
   rw[e];intro c;injection c with c;omega
theorem Env.row1(h:Env w bs [] ts x)(e:TypeId)(sz:Nat):Env w bs [⟨.slice none 0 0,e,sz,0,[]⟩] ts x:=
 ⟨h.at_,h.lo,h.nod,(fun r hr=>by cases List.mem_singleton.1 hr;exact⟨by simp,.inl ⟨rfl,rfl⟩⟩),(fun r hr b hb=>by cases List.mem_singleton.1 hr;simp[Value.ownBlock]),List.pairwise_singleton _ _,
   fun u hu=>(h.deep u hu).mono fun k _ hn=>⟨hn.1,hn.2.1,(fun r hr=>by cases List.mem_singleton.1 hr;simp[Value.ownBlock])⟩,h.below⟩
variable {P:Program} {ops:Array Oper} {rest:List Oper} {o:Oper} {a:Act} {Q:Exit→Act→World→Prop}
theorem Zk(h:Env w bs rs ts x)(t:TypeId)(v:Operand)(vs:List Value)(hg:o.guard=none)(ho:o.op=.box t v)(hv:a.eval v=.agg vs.toArray)
  (hn:∀ y g,Env w (bs++[(g,t,vs)]) rs ts y→wpList P ops Q rest (a.put o.dst (.pointer (some ⟨g,0,none⟩))) y):wpList P ops Q (o::rest) a x:=
 wpList_boxTo hg t v ho o.dst rfl x.heap.size rfl vs.toArray (by rw[hv];rfl) (hn _ _ (h.box t vs))
theorem Zc(h:Env w bs rs ts x)(t:TypeId)(vs:List Value)(hg:o.guard=none)(ho:o.op=.alloc t)(hz:(P.info? t).map (fun i=>i.zero.map Value.cells)=some (some vs.toArray))
  (hn:∀ y g,Env w (bs++[(g,t,vs)]) rs ts y→wpList P ops Q rest (a.put o.dst (.pointer (some ⟨g,0,none⟩))) y):wpList P ops Q (o::rest) a x:=by
 obtain⟨i,hi,hzz⟩:=Option.map_eq_some_iff.1 hz;obtain⟨z,hz1,hz2⟩:=Option.map_eq_some_iff.1 hzz;refine wpList_runTo hg o.dst rfl (.pointer (some ⟨x.heap.size,0,none⟩)) (x.alloc (.cells vs.toArray t)) ?_ (hn _ _ (h.box t vs));unfold execOp;rw[ho];simp[Instr.alloc,zeroValue,typeInfo,hi,hz1,newVar,newRow,hz2,Sem.run_bind,Sem.run_pure,run_newObj_alloc]
end
theorem Env.less{w x:World}{bs cs:List Bk}{rs:List Rw}{ts us:List (Ds×List Value)}(h:Env w (bs++cs) rs (ts++us) x):Env w bs rs ts x:=
 ⟨fun b hb=>h.at_ b (List.mem_append_left _ hb),fun b hb=>h.lo b (List.mem_append_left _ hb),by have:=h.nod;rw[List.map_append,List.nodup_append]at this;exact this.1,h.row,fun r hr b hb=>h.apart r hr b (List.mem_append_left _ hb),h.rapart,
   fun u hu=>(h.deep u (List.mem_append_left _ hu)).mono fun k _ hn=>⟨hn.1,fun b hb=>hn.2.1 b (List.mem_append_left _ hb),hn.2.2⟩,h.below⟩
theorem Env.cell{w x:World}{bs:List Bk}{rs:List Rw}{ts:List (Ds×List Value)}(h:Env w bs rs ts x)(i n:Nat){g:Nat}{t:TypeId}{vs:List Value}{v:Value}(hi:bs[i]?=some (g,t,vs))(hv:vs[n]?=some v):x.cell? ⟨g,n,none⟩=some v:=by
 rw[(h.get i hi).read n,List.getElem?_toArray,hv]
theorem Env.perm{w x:World}{bs cs:List Bk}{rs:List Rw}{ts:List (Ds×List Value)}(h:Env w bs rs ts x)(p:bs.Perm cs):Env w cs rs ts x:=
 ⟨fun b hb=>h.at_ b (p.mem_iff.2 hb),fun b hb=>h.lo b (p.mem_iff.2 hb),(p.map _).nodup_iff.1 h.nod,h.row,fun r hr b hb=>h.apart r hr b (p.mem_iff.2 hb),h.rapart,
   fun t ht=>(h.deep t ht).mono fun k _ hn=>⟨hn.1,fun b hb=>hn.2.1 b (p.mem_iff.2 hb),hn.2.2⟩,h.below⟩
open Go.ChangeShapes Go.WideShapes Go.ChangeAt Go.RowKit
theorem Wq{w:World}{g:Nat}{t:TypeId}{a b c d e f:Value}(h:Zd w g t #[a,b,c,d,e,f]):w.cell? ⟨g,0,none⟩=some a∧w.cell? ⟨g,1,none⟩=some b∧w.cell? ⟨g,2,none⟩=some c∧w.cell? ⟨g,3,none⟩=some d∧w.cell? ⟨g,4,none⟩=some e∧w.cell? ⟨g,5,none⟩=some f:=
 ⟨by rw[h.read];rfl,by rw[h.read];rfl,by rw[h.read];rfl,by rw[h.read];rfl,by rw[h.read];rfl,by rw[h.read];rfl⟩
theorem Ur{o:Oper}{xs:Nat→Option Bool}(h:o.guard=none):Region.wanted o xs=true:=by unfold Region.wanted;rw[h]
section
variable {P:Program} {ops:Array Oper} {S:World→Prop} {o:Oper} {a:Act}
theorem yield_move{x:Operand}{v:Value}(g:o.guard=none)(ho:o.op=.move x)(e:a.eval x=v):YieldsIf P ops S o v a:=
 .inl ⟨(by unfold Region.wanted;rw[g]),fun w _=>by unfold execOp;rw[ho];simp[e,Sem.run_pure]⟩
theorem Zdh{T:TypeId}{x:Operand}{b k:Nat}{ys:List Value}(g:o.guard=none)(ho:o.op=.load T x)(hx:a.eval x=.pointer (some ⟨b,k,none⟩))(hS:∀ w,S w→w.rangeAt b k ys)
  (hu:(P.underlying T).map TypeDesc.isRow=some true)(hi:(P.info? T).map (·.size)=some ys.length):YieldsIf P ops S o (.agg ys.toArray) a:=by
 obtain⟨d,hu,hr⟩:=Option.map_eq_some_iff.1 hu;exact yieldsIf_load_mid ((by unfold Region.wanted;rw[g])) T x ho b k hx ys d hS hu hr hi
end
theorem Zfe{w y:World}{b k:Nat}{ys:List Value}(h:w.rangeAt b k ys)(hb:b<w.heap.size)(hy:Below w.heap.size w y):y.rangeAt b k ys:=fun j v hv=>by
 have:=h j v hv;rw[←this];exact hy.cell (p:=⟨b,k+j,none⟩) hb
def Ext(x y:World):Prop:=Below x.heap.size x y
theorem Ext.refl(x:World):Ext x x:=Below.refl _ _
theorem Ext.trans{x y z:World}(h:Ext x y)(g:Ext y z):Ext x z:=Below.trans h (Below.mono g (Below.size h))
def Zdk(S:World→Prop):Prop:=∀ x y,S x→Ext x y→S y
theorem Zdk.and{S T:World→Prop}(h:Zdk S)(g:Zdk T):Zdk fun x=>S x∧T x:=fun x y a e=>⟨h x y a.1 e,g x y a.2 e⟩
section
variable {P:Program} {ops:Array Oper} {Q:Exit→Act→World→Prop} {md:Region.Mode}
def AB(P:Program)(md:Region.Mode)(ops:Array Oper)(Q:Exit→Act→World→Prop):Nat→(World→Prop)→Array Bool→Act→Prop
 |0,S,listed,a=>Region.ready md ops listed=[]∧∀ w,S w→Q .normal a w
 |n+1,S,listed,a=>(Region.ready md ops listed=[]→∀ w,S w→Q .normal a w) ∧
  ∀ i ∈ Region.ready md ops listed,∀ w,S w→wpOp P ops Q i (fun a' w'=>∃ S',S' w'∧Zdk S'∧(∀ x,S' x→S x)∧AB P md ops Q n S' (listed.setIfInBounds i true) a') a w
theorem AB.any:∀(n:Nat)(S:World→Prop)(listed:Array Bool)(a:Act)(w:World),AB P md ops Q n S listed a→S w→wpAny P md ops Q n listed a w
 |0,_,_,_,w,h,hS=>⟨h.1,h.2 w hS⟩
 |n+1,_,_,_,w,h,hS=>⟨fun e=>h.1 e w hS,fun i hi=>wpOp_mono (fun a' w' ⟨S',s,_,_,h'⟩=>AB.any n S' _ a' w' h' s) (h.2 i hi w hS)⟩
def Wk(P:Program)(ops:Array Oper)(S:World→Prop)(o:Oper)(v:Value)(a:Act):Prop:=
 (Region.wanted o (yielded ops a.tmps)=true∧∀ w,S w→(execOp a.eval o).run P w=.ok (.value v) w∨∃ f args,(execOp a.eval o).run P w=.ok (.enter f args) w∧Calls P f args w fun e w'=>e=.returned v∧Ext w w') ∨
 (Region.wanted o (yielded ops a.tmps)=false∧v=undef)
theorem YieldsIf.gives{S:World→Prop}{o:Oper}{v:Value}{a:Act}(h:YieldsIf P ops S o v a):Wk P ops S o v a:=h.imp (fun⟨hw,hv⟩=>⟨hw,fun w s=>.inl (hv w s)⟩) id
theorem Wk.mono{S T:World→Prop}{o:Oper}{v:Value}{a:Act}(h:Wk P ops S o v a)(hs:∀ x,T x→S x):Wk P ops T o v a:=h.imp (fun⟨hw,hv⟩=>⟨hw,fun w s=>hv w (hs w s)⟩) id
theorem Wk.same{S:World→Prop}{o:Oper}{v:Value}{a b:Act}(h:Wk P ops S o v a)(he:execOp b.eval o=execOp a.eval o)(hw:Region.wanted o (yielded ops b.tmps)=Region.wanted o (yielded ops a.tmps)):Wk P ops S o v b:=by
 unfold Wk at *;rw[he,hw];exact h
theorem Wk.op{S:World→Prop}{i:Nat}{o:Oper}{v:Value}{a:Act}(hi:ops[i]?=some o)(h:Wk P ops S o v a){K:Act→World→Prop}{w:World}(hS:S w)(hK:∀ w',Ext w w'→K (a.put o.dst v) w'):wpOp P ops Q i K a w:=by
 unfold wpOp;rw[hi];rcases h with⟨hw,hv⟩ | ⟨hw,rfl⟩
 ·simp only[hw,if_true]
  refine .inl ?_;unfold Oper.wp;rcases hv w hS with e | ⟨f,args,e,hc⟩
  ·rw[e];exact hK w (Ext.refl w)
  ·rw[e]
   refine Calls.mono hc fun e' w' he=>?_
   obtain⟨rfl,hx⟩:=he;exact hK w' hx
 ·simp only[hw,Bool.false_eq_true,if_false];exact hK w (Ext.refl w)
theorem Wk.past{S:World→Prop}{j:Nat}{oi oj:Oper}{v:Value}(hj:ops[j]?=some oj)(hap:oi.apart ops oj=true)(hsi:∀ cs b,oi.op≠.select cs b)(hsj:∀ cs b,oj.op≠.select cs b)
  (hQ:∀ c a w,Q (.panic c) (a.put oi.dst v) w→Q (.panic c) a w){K:Act→World→Prop}{a:Act}{w:World}(hy:Wk P ops S oi v a)(h:wpOp P ops Q j K (a.put oi.dst v) w) :
  wpOp P ops Q j (fun a' w'=>Wk P ops S oi v a'∧K (a'.put oi.dst v) w') a w:=by
 obtain⟨h1,h2,h3⟩:=Oper.apart_spec hap;have keep:∀(b:Act),Wk P ops S oi v b→∀ u,Wk P ops S oi v (b.put oj.dst u):=fun b hb u=>hb.same (execOp_put oi hsi b oj.dst u h3) (wanted_put oi b oj.dst u h3)
 have swap:∀(b:Act) u,(b.put oi.dst v).put oj.dst u=(b.put oj.dst u).put oi.dst v:=fun b u=>Act.put_comm b v u h2
 have hx:=execOp_put oj hsj a oi.dst v h1;unfold wpOp at *;simp only[hj]at *;rw[wanted_put oj a oi.dst v h1]at h;by_cases hw:Region.wanted oj (yielded ops a.tmps)=true
 ·simp only[hw,if_true]at h ⊢
  rcases h with h | ⟨ha,hl⟩
  ·refine .inl ?_
   unfold Oper.wp at *;rw[hx]at h;revert h
   cases(execOp a.eval oj).run P w with
   |ok n x=>
    cases n with
    |value u=>intro h;exact⟨keep a hy u,by rw[←swap];exact h⟩
    |skip=>intro h;exact⟨keep a hy _,by rw[←swap];exact h⟩
    |defer d=>
     intro h;refine⟨keep _ (hy.same (b:= { a with defers:=d::a.defers }) rfl rfl) _,?_⟩;rw[←swap,←Act.put_defers];exact h
    |enter f args=>
     intro h;refine Calls.mono h fun e y he=>?_
     cases e with
     |returned u=>exact⟨keep a hy u,by rw[←swap];exact he⟩
     |panicked c=>exact hQ _ _ _ he
     |outgrown=>exact he
    |row r args=>intro h;exact Rows.mono h fun u y he=>⟨keep a hy u,by rw[←swap];exact he⟩
    |_=>intro h;exact h
   |halt x y=>
    cases x with
    |panic u=>intro h;exact hQ _ _ _ h
    |_=>intro h;exact h
  ·exact .inr ⟨by unfold Oper.asks at *;rw[hx]at ha;exact ha,hl⟩
 ·have hw:Region.wanted oj (yielded ops a.tmps)=false:=by simpa using hw
  simp only[hw,Bool.false_eq_true,if_false]at h ⊢;exact⟨keep a hy _,by rw[←swap];exact h⟩
theorem AB.first{i:Nat}{oi:Oper}{v:Value}(hi:ops[i]?=some oi)(hsel:∀(j:Nat)(o:Oper) cs b,ops[j]?=some o→o.op≠.select cs b)(hQ:∀ c a w,Q (.panic c) (a.put oi.dst v) w→Q (.panic c) a w) :
  ∀(n:Nat)(S:World→Prop)(listed:Array Bool)(a:Act),(∀ j oj,ops[j]?=some oj→j≠i→listed.getD j true=false→(∀ e ∈ oj.after,Region.binds md e=true→e.on≠i)→oi.apart ops oj=true) →
   i ∈ Region.ready md ops listed→Zdk S→Wk P ops S oi v a→AB P md ops Q n S (listed.setIfInBounds i true) (a.put oi.dst v)→AB P md ops Q (n+1) S listed a:=by
 intro n;induction n with
 |zero=>
  intro S listed a _ hr hst hy H;refine⟨fun e=>(by rw[e]at hr;cases hr),fun j hj w hS=>?_⟩;by_cases hji:j=i
  ·subst hji;exact hy.op hi hS fun w' e=>⟨S,hst _ _ hS e,hst,fun _ h=>h,H⟩
  ·have:=ready_mono hj hji
   rw[H.1]at this;cases this
 |succ n ih=>
  intro S listed a hfree hr hst hy H;refine⟨fun e=>(by rw[e]at hr;cases hr),fun j hj w hS=>?_⟩;by_cases hji:j=i
  ·subst hji;exact hy.op hi hS fun w' e=>⟨S,hst _ _ hS e,hst,fun _ h=>h,H⟩
  ·have h1:=H.2 j (ready_mono hj hji) w hS
   obtain⟨hjun,oj,hoj,hall⟩:=mem_ready.1 hj
   have hnot:∀ e ∈ oj.after,Region.binds md e=true→e.on≠i:=fun e he hb heq=>by
    have h1:=hall e he hb;have h0:=(mem_ready.1 hr).1;rw[heq]at h1;rcases Nat.lt_or_ge i listed.size with h' | h'
    ·simp[h']at h0 h1;rw[h0]at h1;cases h1
    ·simp[Array.getElem?_eq_none h']at h1
   have h2:=Wk.past hoj (hfree j oj hoj hji hjun hnot) (fun cs b=>hsel i oi cs b hi) (fun cs b=>hsel j oj cs b hoj) hQ hy h1;refine wpOp_mono (fun a' w' h3=>?_) h2;obtain⟨hg,S',hs',st',sub,hab⟩:=h3;refine⟨S',hs',st',sub,ih S' (listed.setIfInBounds j true) a' (fun k ok hk hki hun hno=>hfree k ok hk hki ?_ hno) (ready_mono hr (Ne.symm hji)) st' (hg.mono sub) ?_⟩
   ·by_cases hjk:j=k
    ·subst hjk;exact hjun
    ·rw[getD_set_ne true hjk]at hun;exact hun
   ·rw[Array.setIfInBounds_comm _ _ hji]
    exact hab
theorem AB.take{i k n:Nat}{oi:Oper}{v:Value}{S:World→Prop}{listed:Array Bool}{l:List Value}{d:List Deferred}(hi:ops[i]?=some oi)(hd:oi.dst=some k)
  (hs:Region.noSelect ops=true)(hf:Region.free md ops listed i=true)(hr:(Region.ready md ops listed).contains i=true)
  (hQ:∀ c a w,Q (.panic c) (a.put oi.dst v) w→Q (.panic c) a w)(hst:Zdk S)(hy:Wk P ops S oi v ⟨l.toArray,d⟩)
  (h:AB P md ops Q n S (listed.setIfInBounds i true) ⟨(l.set k v).toArray,d⟩):AB P md ops Q (n+1) S listed ⟨l.toArray,d⟩:=by
 refine AB.first hi (Region.noSelect_spec hs) hQ n S listed _ (Region.free_spec hi hf) (by simpa using hr) hst hy ?_;rw[hd];simpa[Act.put]using h
def Zel(P:Program)(md:Region.Mode)(ops:Array Oper)(Q:Exit→Act→World→Prop)(n:Nat)(S:World→Prop)(listed:Array Bool)(a:Act)(i:Nat):Prop:=
 ∀ w,S w→wpOp P ops Q i (fun a' w'=>∃ S',S' w'∧Zdk S'∧(∀ x,S' x→S x)∧AB P md ops Q n S' (listed.setIfInBounds i true) a') a w
theorem Zel.some{ι : Type}{i k n f:Nat}{args:Array Value}{oi:Oper}{val : ι → Value}{φ : ι → World→Prop}{S:World→Prop}{listed:Array Bool}{l:List Value}{d:List Deferred}(hi:ops[i]?=some oi)(hd:oi.dst=some k)
  (hg:oi.guard=none)(hst:Zdk S)(he:∀ w,S w→(execOp (⟨l.toArray,d⟩:Act).eval oi).run P w=.ok (.enter f args) w)
  (hc:∀ w,S w→Calls P f args w fun e w'=>∃ g,e=.returned (val g) ∧ φ g w'∧Ext w w')(hφ : ∀ g,Zdk (φ g))
  (h:∀ g,AB P md ops Q n (fun x=>S x ∧ φ g x) (listed.setIfInBounds i true) ⟨(l.set k (val g)).toArray,d⟩):Zel P md ops Q n S listed ⟨l.toArray,d⟩ i:=by
 intro w hS;unfold wpOp;rw[hi];have hw:Region.wanted oi (yielded ops (⟨l.toArray,d⟩:Act).tmps)=true:=by unfold Region.wanted;rw[hg]
 simp only[hw,if_true];refine .inl ?_;unfold Oper.wp;rw[he w hS];refine Calls.mono (hc w hS) fun e w' hh=>?_
 obtain⟨g,rfl,hp,hx⟩:=hh;refine⟨fun x=>S x ∧ φ g x,⟨hst _ _ hS hx,hp⟩,hst.and (hφ g),fun _ h=>h.1,?_⟩;have:=h g;rw[hd];simpa[Act.put]using this
theorem AB.one{i n:Nat}{S:World→Prop}{listed:Array Bool}{a:Act}(hr:Region.ready md ops listed=[i])(h:Zel P md ops Q n S listed a i):AB P md ops Q (n+1) S listed a:=
 ⟨fun e=>(by rw[hr]at e;cases e),fun j hj=>by
   rw[hr,List.mem_singleton]at hj;subst hj;exact h⟩
theorem AB.done{n:Nat}{S:World→Prop}{listed:Array Bool}{a:Act}(hr:Region.ready md ops listed=[])(h:∀ w,S w→Q .normal a w):AB P md ops Q n S listed a:=by
 cases n with
 |zero=>exact⟨hr,h⟩
 |succ n=>exact⟨fun _=>h,by rw[hr];simp⟩
theorem Wk.call{S:World→Prop}{o:Oper}{a:Act}{f:Nat}{args:Array Value}{v:Value}(g:o.guard=none)(he:∀ w,(execOp a.eval o).run P w=.ok (.enter f args) w)(hc:∀ w,S w→Calls P f args w fun e w'=>e=.returned v∧Below w.heap.size w w'):Wk P ops S o v a:=
 .inl ⟨by unfold Region.wanted;rw[g],fun w hS=>.inr ⟨f,args,he w,hc w hS⟩⟩
theorem Yk{S:World→Prop}{o:Oper}{a:Act}{t u:TypeId}{x y:Operand}{s r:ByteArray}(g:o.guard=none)(ho:o.op=.binOp .add t x y u)(hx:a.eval x=.string s)(hy:a.eval y=.string r)(hz:s.size+r.size≤9223372036854775807):Wk P ops S o (.string (s++r)) a:=
 .inl ⟨by unfold Region.wanted;rw[g],fun w _=>.inl (by
  unfold execOp;rw[ho];have h:=run_string_add_sum (P:=P) (w:=w) s r hz;simp[hx,hy,eqGuard,Sem.run_bind,Sem.run_pure,binOp_string_add,h])⟩
theorem Ua{S:World→Prop}{o:Oper}{a:Act}{x:Operand}{v:Value}(g:o.guard=none)(ho:o.op=.move x)(e:a.eval x=v):Wk P ops S o v a:=YieldsIf.gives (yield_move g ho e)
theorem Zp{S:World→Prop}{o:Oper}{a:Act}{v:Value}(g:o.guard=none)(h:∀ w,S w→(execOp a.eval o).run P w=.ok (.value v) w):Wk P ops S o v a:=.inl ⟨by unfold Region.wanted;rw[g],fun w s=>.inl (h w s)⟩
theorem Wk.callG{S:World→Prop}{o:Oper}{a:Act}{f:Nat}{args:Array Value}{v:Value}(g:Region.wanted o (yielded ops a.tmps)=true)(he:∀ w,(execOp a.eval o).run P w=.ok (.enter f args) w)(hc:∀ w,S w→Calls P f args w fun e w'=>e=.returned v∧Below w.heap.size w w'):Wk P ops S o v a:=
 .inl ⟨g,fun w hS=>.inr ⟨f,args,he w,hc w hS⟩⟩
theorem Yf{S:World→Prop}{o:Oper}{a:Act}{v:Value}(g:Region.wanted o (yielded ops a.tmps)=true)(h:∀ w,S w→(execOp a.eval o).run P w=.ok (.value v) w):Wk P ops S o v a:=.inl ⟨g,fun w s=>.inl (h w s)⟩
theorem Wy{S:World→Prop}{o:Oper}{a:Act}(g:Region.wanted o (yielded ops a.tmps)=false):Wk P ops S o undef a:=.inr ⟨g,rfl⟩
theorem Xd{S:World→Prop}{o:Oper}{a:Act}{x:Operand}{v:Value}(g:Region.wanted o (yielded ops a.tmps)=true)(ho:o.op=.move x)(e:a.eval x=v):Wk P ops S o v a:=
 .inl ⟨g,fun w _=>.inl (by unfold execOp;rw[ho];simp[e,Sem.run_pure])⟩
theorem Zdq{S:World→Prop}{o:Oper}{a:Act}{T:TypeId}{x:Operand}{b k:Nat}{ys:List Value}(g:Region.wanted o (yielded ops a.tmps)=true)(ho:o.op=.load T x)(hx:a.eval x=.pointer (some ⟨b,k,none⟩))(hS:∀ w,S w→w.rangeAt b k ys)
  (hu:(P.underlying T).map TypeDesc.isRow=some true)(hi:(P.info? T).map (·.size)=some ys.length):Wk P ops S o (.agg ys.toArray) a:=by
 obtain⟨d,hu,hr⟩:=Option.map_eq_some_iff.1 hu;exact YieldsIf.gives (yieldsIf_load_mid g T x ho b k hx ys d hS hu hr hi)
theorem Zjy{S:World→Prop}{o:Oper}{a:Act}{t e:TypeId}{x y:Operand}{b n c k sz:Nat}(g:Region.wanted o (yielded ops a.tmps)=true)(ho:o.op=.indexAddr t x y)(hx:a.eval x=.slice (some ⟨b,0,none⟩) n c)(hy:a.eval y=.int .i64 (k:Int))(hk:k<n)
  (hu:P.underlying t=some (.slice e))(hs:(P.info? e).map (·.size)=some sz):Wk P ops S o (.pointer (some ⟨b,k*sz,none⟩)) a:=
 .inl ⟨g,fun w _=>.inl (by
  obtain⟨i,hi,hz⟩:=Option.map_eq_some_iff.1 hs;unfold execOp;rw[ho];have h0:(0:Int)≤(k:Int):=by omega
  have h1:(k:Int)<(n:Int):=by omega
  have h2:((k:Int)).toNat=k:=by omega
  simp[hx,hy,Instr.indexAt,asIntOf,run_underlying hu,sizeOf,typeInfo,hi,hz,h1,Addr.add_lit,Sem.run_bind,Sem.run_pure];intro hle;omega)⟩
theorem Xk{id:Nat}{a:Act}{w:World}(S:World→Prop)(hm:P.follows .mixedOrders=true)(hS:S w.drew)(h:AB P .any ops Q ops.size S (Array.replicate ops.size false) a):(Code.region id ops true).wp P Q a w:=
 wp_region_any hm (AB.any _ S _ _ _ h hS)
end
open Go.ChangeShapes Go.WideShapes Go.ChangeAt Go.RowKit Go.Great
def Zln(w:World)(L:List ByteArray)(n:Nat)(e:Ending)(w':World):Prop:=∃ g,e=.returned (.slice (some ⟨g,0,none⟩) n n)∧Zd w' g 9 (L.map Value.string).toArray∧Below w.heap.size w w'
def Zgi:List ByteArray:=⟨#[]⟩::Zg
def wWheres:List ByteArray:=⟨#[]⟩::Zw
def wPicks:List ByteArray:=⟨#[]⟩::Wm
def wTos:List ByteArray:=⟨#[]⟩::wTo
def wOps:List ByteArray:=⟨#[]⟩::wOp
def wHows:List ByteArray:=⟨#[]⟩::Zcl
def wActs:List ByteArray:=⟨#[]⟩::Xo
theorem Wh{w:World}{g:Nat}{L:List ByteArray}(h:Zd w g 9 ((⟨#[]⟩::L).map Value.string).toArray){k:Nat}(h1:1≤k)(h2:k≤L.length):w.cell? ⟨g,k,none⟩=some (.string (wd L (k:Int))):=by
 rw[h.read];obtain⟨j,rfl⟩:∃ j,k=j+1:=⟨k - 1,by omega⟩
 have hj:j<L.length:=by omega
 have e:(((j+1:Nat):Int)).toNat - 1=j:=by omega
 unfold wd;rw[e,List.getElem?_eq_getElem hj];simp[hj]
theorem Yq{L:List ByteArray}(h:(L.all fun t=>decide (t.size≤10))=true)(k:Int):(wd L k).size≤10:=by
 unfold wd;cases e:L[k.toNat - 1]? with
 |none=>show(0:Nat)≤10;omega
 |some t=>
  have:=List.all_eq_true.1 h t (List.mem_of_getElem? e);simpa using this
theorem Zdw(w:World):Calls Tryz.prog 66 #[] w (Zln w Zgi 4):=by
 go_enter Tryz.func66,Tryz.ntmps66;go_wp2
 go_ret;exact⟨w.heap.size,rfl,Zd.made w 9 (Zgi.map Value.string).toArray,(Below.refl _ _).alloc (Nat.le_refl _) _⟩
theorem rz_wheres(w:World):Calls Tryz.prog 67 #[] w (Zln w wWheres 5):=by
 go_enter Tryz.func67,Tryz.ntmps67;go_wp2
 go_ret;exact⟨w.heap.size,rfl,Zd.made w 9 (wWheres.map Value.string).toArray,(Below.refl _ _).alloc (Nat.le_refl _) _⟩
theorem rz_picks(w:World):Calls Tryz.prog 69 #[] w (Zln w wPicks 6):=by
 go_enter Tryz.func69,Tryz.ntmps69;go_wp2
 go_ret;exact⟨w.heap.size,rfl,Zd.made w 9 (wPicks.map Value.string).toArray,(Below.refl _ _).alloc (Nat.le_refl _) _⟩
theorem rz_tos(w:World):Calls Tryz.prog 125 #[] w (Zln w wTos 5):=by
 go_enter Tryz.func125,Tryz.ntmps125;go_wp2
 go_ret;exact⟨w.heap.size,rfl,Zd.made w 9 (wTos.map Value.string).toArray,(Below.refl _ _).alloc (Nat.le_refl _) _⟩
theorem rz_ops(w:World):Calls Tryz.prog 68 #[] w (Zln w wOps 7):=by
 go_enter Tryz.func68,Tryz.ntmps68;go_wp2
 go_ret;exact⟨w.heap.size,rfl,Zd.made w 9 (wOps.map Value.string).toArray,(Below.refl _ _).alloc (Nat.le_refl _) _⟩
theorem rz_hows(w:World):Calls Tryz.prog 122 #[] w (Zln w wHows 5):=by
 go_enter Tryz.func122,Tryz.ntmps122;go_wp2
 go_ret;exact⟨w.heap.size,rfl,Zd.made w 9 (wHows.map Value.string).toArray,(Below.refl _ _).alloc (Nat.le_refl _) _⟩
theorem Zaj(w:World):Calls Tryz.prog 121 #[] w (Zln w wActs 16):=by
 go_enter Tryz.func121,Tryz.ntmps121;go_wp2
 go_ret;exact⟨w.heap.size,rfl,Zd.made w 9 (wActs.map Value.string).toArray,(Below.refl _ _).alloc (Nat.le_refl _) _⟩
theorem rz_num(n:Int)(w:World)(h1 : -9223372036854775808≤n)(h2:n≤9223372036854775807):Calls Tryz.prog 56 #[.int .i64 n] w fun e w'=>e=.returned (.string (Wl n))∧Below w.heap.size w w':=by
 go_enter Tryz.func56,Tryz.ntmps56;go_wp2_with(go_at_call 111;refine(drPut_any _ n _ (Nat.le_refl _) h1 h2).mono ?_;rintro e w1 ⟨rfl,b1⟩)
 go_ret;exact⟨rfl,b1⟩
theorem rz_lane4(l:Int)(h0:0≤l)(h9:l≤99)(w:World):Calls Tryz.prog 75 #[.agg #[.int .i64 4,.int .i64 l]] w fun e w'=>e=.returned (.string (Zmt 4 l))∧Below w.heap.size w w':=by
 have T:=Hh (Env.start w);have hz:=Zbi l (by omega) (by omega);have e:Zmt 4 l=⟨#[108,97,110,101,32]⟩++Wl l:=if_pos rfl;rw[e];clear e;have hn:=fun x=>rz_num l x (by omega) (by omega)
 generalize Wl l=t at *;go_enter Tryz.func75,Tryz.ntmps75;go_wp2_with(first
 |((with_reducible refine Ze 1 ?_);refine Zk T.out 48 _ ([.int .i64 4,.int .i64 l]) rfl rfl rfl ?_;intro wn g0 tn;have T:=Hh tn;clear tn;have c0:=T.out.cell 0 0 rfl rfl;have c1:=T.out.cell 0 1 rfl rfl)
 |(go_at_call 56;refine(hn _).mono ?_;rintro e wn ⟨rfl,bn⟩;have T:=Hh (T.out.call bn);clear bn))
 go_ret;exact⟨rfl,T.out.below⟩
theorem rz_lane(k:Nat)(h1:1≤k)(h3:k≤3)(l:Int)(w:World):Calls Tryz.prog 75 #[.agg #[.int .i64 (k:Int),.int .i64 l]] w fun e w'=>e=.returned (.string (Zmt (k:Int) l))∧Below w.heap.size w w':=by
 have T:=Hh (Env.start w);have e:Zmt (k:Int) l=wd wTo (k:Int):=if_neg (by omega);rw[e];clear e;have hw:=fun(x:World)(g:Nat)(h:Zd x g 9 (wTos.map Value.string).toArray)=>Wh h h1 (show k≤wTo.length by show k≤4;omega)
 have b4:((k:Int) == 4)=false:=by simp;omega
 have l0:(0:Int)≤(k:Int):=by omega
 have l5:(k:Int)<5:=by omega
 generalize wd wTo (k:Int)=t at *;have HW:=Hh hw;clear hw;go_enter Tryz.func75,Tryz.ntmps75;go_upto_region 3 with((with_reducible refine Ze 1 ?_);refine Zk T.out 48 _ ([.int .i64 (k:Int),.int .i64 l]) rfl rfl rfl ?_;intro wn g0 tn;have T:=Hh tn;clear tn;have c0:=T.out.cell 0 0 rfl rfl)
 have T2:=Hh T.out.drew;have c2:=T2.out.cell 0 0 rfl rfl;go_region_with(go_at_call 125;refine(rz_tos _).mono ?_;rintro e wn ⟨g,rfl,hg,bn⟩;have T:=Hh (T2.out.call bn);clear bn;have c0:=T.out.cell 0 0 rfl rfl;have cg:=HW.out _ _ hg;clear hg)
 all_goals
  go_wp2
  go_ret;exact⟨rfl,T.out.below⟩
theorem Znr{k l:Int}(hv:VTo k l)(w:World):Calls Tryz.prog 75 #[.agg #[.int .i64 k,.int .i64 l]] w fun e w'=>e=.returned (.string (Zmt k l))∧Below w.heap.size w w':=by
 rcases hv with⟨hk,_⟩ | ⟨hk,h0,h9⟩
 ·obtain⟨j,rfl⟩:∃ j:Nat,k=j:=⟨k.toNat,by omega⟩
  exact rz_lane j (by omega) (by omega) l w
 ·subst hk
  exact rz_lane4 l h0 h9 w
theorem push_at{P:Program}{w w':World}(base:Nat)(t u ty e:TypeId)(i:TypeInfo)(ht:P.underlying t=some (.slice e))(hu:P.underlying u=some .string)(hi:P.info? e=some i)(hz:i.zero=some (.int .u8 0))
  (hsize:i.size=1)(hby:i.bytes=1)(v v':Value)(n:Nat)(xs:List Value)(hown:w.ownsRow base e 1 v n xs)(s:ByteArray)(h63:n+s.size≤maxLen)(hbytes:n+s.size≤140737488355328)
  (hr:(Builtin.append_ #[t,u] ty #[v,.string s]).run P w=.ok v' w'):v'.ownBlock=v.ownBlock∨v'.ownBlock=some w.heap.size:=by
 have hsmall:n+s.size≤9223372036854775807:=by simp only[maxLen]at h63;omega
 have hxl:xs.length=n:=by simpa using hown.1
 rcases hown.2 with⟨rfl,rfl⟩ | ⟨g,cap,cur,rfl,hbg,hg,hnc,hcm,hcs,htake⟩
 ·by_cases hm:s.size=0
  ·have hf:=Lib.run_firstCells_string (P:=P) w 1 s
   rw[hm]at hf
   have h2:(Builtin.append_ #[t,u] ty #[.slice none 0 0,.string s]).run P w=.ok (.slice none 0 0) w:=by
    simp[Builtin.append_,run_underlying ht,run_underlying hu,sizeOf,typeInfo,hi,hsize,Builtin.lenOf,hm,hf]
   rw[h2]at hr;injection hr with e1 e2;subst e1;exact .inl rfl
  ·have h2:=run_append_nil_string (P:=P) w t u ty e i (.int .u8 0) ht hu hi hz s (by omega) (by omega) (by rw[hby];omega)
   rw[h2]at hr;injection hr with e1 e2;subst e1;exact .inr rfl
 ·by_cases hroom:n+s.size≤cap
  ·have hcs':cur.size=cap:=by simpa using hcs
   have h2:=Lib.run_append_room_string (P:=P) w t u ty e i ht hu hi hsize g n cap cur hg s hroom (by omega);rw[h2]at hr;injection hr with e1 e2;subst e1;exact .inl rfl
  ·have holds:∀ j u,xs[j]?=some u→w.cell? ((⟨g,0,none⟩:Addr).add j)=some u:=hown.cells (g:=g) rfl
   have h2:=Lib.run_append_grow_string (P:=P) w t u ty e i (.int .u8 0) ht hu hi hz ⟨g,0,none⟩ n cap xs (by rw[hsize];simpa using hxl) holds s (by omega) (by omega) (by rw[hby];exact growslice_fits (by omega) (by omega));rw[h2]at hr;injection hr with e1 e2;subst e1;exact .inr rfl
theorem wpList_pushAt{P:Program}{w:World}{ops:Array Oper}{rest:List Oper}{o:Oper}{a:Act}{Q:Exit→Act→World→Prop}(sl x:Operand)(t u e:TypeId)
  (ht:P.underlying t=some (.slice e))(hu:P.underlying u=some .string)(hinfo:(P.info? e).map (fun i=>(i.zero,i.size,i.bytes))=some (some (.int .u8 0),1,1))
  (hgd:o.guard=none)(ho:o.op=.call { callee:=.builtin .append,args:=#[sl,x],argTypes:=#[t,u] })
  (base:Nat)(v:Value)(n:Nat)(l m:List Int)(hs:a.eval sl=v)(hown:w.ownsRow base e 1 v n (l.map (Value.int .u8)))(hx:a.eval x=.string (strOfNums m))(hm:∀ x ∈ m,0≤x∧x<256)
  (hn:n+m.length≤1099511627776)(hbase:base≤w.heap.size)
  (h:∀ v' w',w'.ownsRow base e 1 v' (n+m.length) ((l++m).map (Value.int .u8))→w.grownBy w' v.ownBlock→(v'.ownBlock=v.ownBlock∨v'.ownBlock=some w.heap.size)→wpList P ops Q rest (a.put o.dst v') w'):wpList P ops Q (o::rest) a w:=by
 obtain⟨i,hi,hz,hsize,hbytes⟩:=info_parts hinfo;have hsz:(strOfNums m).size=m.length:=strOfNums_size m;refine wpList_plain hgd fun K hK=>?_
 obtain⟨v',w',hr,h2,h3,h4⟩:=Lib.run_append_own_string (P:=P) w base t u o.type e i ht hu hi hz hsize hbytes v n _ hown (strOfNums m) (by rw[hsz];unfold maxLen;omega) (by rw[hsz];omega) hbase;have h5:=push_at base t u o.type e i ht hu hi hz hsize hbytes v v' n _ hown (strOfNums m) (by rw[hsz];unfold maxLen;omega) (by rw[hsz];omega) hr;unfold Oper.wp execOp;simp only[ho,resolve,invoke,builtin,Sem.run_bind,Sem.run_pure,Result.andThen_ok,List.map_toArray,List.map_cons,List.map_nil,hs,hx,hr];rw[hsz,strCells_str m hm,←List.map_append]at h2;exact hK _ _ (h v' w' h2 h3 h5)
theorem Zd.shape{w:World}{g:Nat}{t:TypeId}{cs:Array Value}(h:Zd w g t cs):w.shape? g=some (t,cs.size):=by
 unfold Zd at h;simp[World.shape?,h]
theorem bd_size:∃ j,Tryz.prog.info? 160=some j∧j.size≠0:=by
 have h:(Tryz.prog.info? 160).map (fun i=>decide (i.size≠0))=some true:=by kernel_rfl
 obtain⟨j,hj,hz⟩:=Option.map_eq_some_iff.1 h;exact⟨j,hj,by simpa using hz⟩
theorem bd_used(b:Nat)(w:World)(h0:w.cell? ⟨b,0,none⟩=some (.pointer (some ⟨b,0,none⟩))) :
  Calls Tryz.prog 199 #[.pointer (some ⟨b,0,none⟩)] w fun e w'=>e=.returned (.tuple #[])∧w=w':=by
 obtain⟨j,hj,hz⟩:=bd_size;have hq:=Lib.run_neq_ptr_same (P:=Tryz.prog) w ⟨b,0,none⟩ Tryz.underlying157 hj;go_enter Tryz.func199,Tryz.ntmps199;go_wp2
 go_end0
 exact⟨rfl,rfl⟩
theorem bd_fresh(T:TypeId)(n:Nat)(b:Nat)(w:World)(h0:w.cell? ⟨b,0,none⟩=some (.pointer none))(hsh:w.shape? b=some (T,n))(hn:0<n)(hl:liesAt Tryz.prog Tryz.prog.depth T (n / Tryz.prog.cellsOf T) 0 160 1=true)(hfz:w.frozen? ⟨b,0,none⟩=false) :
  Calls Tryz.prog 199 #[.pointer (some ⟨b,0,none⟩)] w fun e w'=>e=.returned (.tuple #[])∧w'=w.setCell ⟨b,0,none⟩ (.pointer (some ⟨b,0,none⟩)):=by
 obtain⟨j,hj,hz⟩:=bd_size;have q1:=Lib.run_to_unsafe (P:=Tryz.prog) w ⟨b,0,none⟩ Tryz.underlying157 Tryz.underlying287 hj hz hsh hn;have q2:=Lib.run_from_unsafe (P:=Tryz.prog) w ⟨b,0,none⟩ Tryz.underlying287 Tryz.underlying157 hj hsh hl
 have q3:∀ y,(callFunc 229 #[.pointer (some ⟨b,0,none⟩)]).run Tryz.prog y=.ok (.value (.pointer (some ⟨b,0,none⟩))) y:=fun y=>by
  rw[run_callFunc_extern Tryz.func229 (by kernel_rfl) (by kernel_rfl) (by kernel_rfl) (e:=Extern.AbiNoEscape.same) (by kernel_rfl),Lib.run_noEscape];rfl
 have q4:=Lib.run_neq_ptr_same (P:=Tryz.prog) (w.setCell ⟨b,0,none⟩ (.pointer (some ⟨b,0,none⟩))) ⟨b,0,none⟩ Tryz.underlying157 hj;clear hsh hl;go_enter Tryz.func199,Tryz.ntmps199;go_wp2
 go_end0
 exact⟨rfl,rfl⟩
structure Zas(T:TypeId)(rest:List Value)(B:Nat)(w:World)(b:Nat)(a v:Value)(bs:List Int):Prop where
 whole:Zd w b T (a::v::rest).toArray
 row:w.ownsRow B 5 1 v bs.length (bs.map (Value.int .u8))
 lo:B≤b
 far:v.ownBlock≠some b
 used:a=.pointer none∨a=.pointer (some ⟨b,0,none⟩)
structure Ub(b:Nat)(v:Value)(w:World)(v':Value)(w':World):Prop where
 keeps:Zx (fun k=>k=b∨v.ownBlock=some k) w w'
 fresh:∀ k,v'.ownBlock=some k→v.ownBlock=some k∨w.heap.size≤k
theorem Ub.refl(b:Nat)(v:Value)(w:World):Ub b v w v w:=⟨Zx.refl _ _,fun _ h=>.inl h⟩
theorem Ub.of_below{b:Nat}{v:Value}{w w':World}(h:Below w.heap.size w w'):Ub b v w v w':=⟨Zx.of_below h,fun _ h=>.inl h⟩
theorem Ub.trans{b:Nat}{v v1 v2:Value}{x y z:World}(h:Ub b v x v1 y)(k:Ub b v1 y v2 z):Ub b v x v2 z:=by
 refine⟨⟨k.keeps.os.trans h.keeps.os,k.keeps.tape.trans h.keeps.tape,k.keeps.output.trans h.keeps.output,Nat.le_trans h.keeps.size k.keeps.size,fun i hi hn=>?_⟩,fun i hi=>?_⟩
 ·refine(k.keeps.block i (Nat.lt_of_lt_of_le hi h.keeps.size) (fun c=>?_)).trans (h.keeps.block i hi hn)
  rcases c with c | c
  ·exact hn (.inl c)
  ·rcases h.fresh i c with e | e
   ·exact hn (.inr e)
   ·omega
 ·rcases k.fresh i hi with e | e
  ·exact h.fresh i e
  ·exact .inr (Nat.le_trans h.keeps.size e)
theorem Zas.below{T:TypeId}{rest:List Value}{B:Nat}{w w':World}{b:Nat}{a v:Value}{bs:List Int}(h:Zas T rest B w b a v bs)(hb:Below w.heap.size w w'):Zas T rest B w' b a v bs:=
 ⟨h.whole.below hb h.whole.inside,Jr h.row hb,h.lo,h.far,h.used⟩
theorem Zas.self{T:TypeId}{rest:List Value}{B:Nat}{w:World}{b:Nat}{a v:Value}{bs:List Int}(h:Zas T rest B w b a v bs):Zas T rest B (w.setCell ⟨b,0,none⟩ (.pointer (some ⟨b,0,none⟩))) b (.pointer (some ⟨b,0,none⟩)) v bs:=
 ⟨by have:=h.whole.write 0 (.pointer (some ⟨b,0,none⟩));simpa using this,Zay h.row h.far _,h.lo,h.far,.inr rfl⟩
theorem bdCheck{T:TypeId}{rest:List Value}{B:Nat}{w:World}{b:Nat}{a v:Value}{bs:List Int}(h:Zas T rest B w b a v bs)(hl:liesAt Tryz.prog Tryz.prog.depth T ((rest.length+2) / Tryz.prog.cellsOf T) 0 160 1=true) :
  Calls Tryz.prog 199 #[.pointer (some ⟨b,0,none⟩)] w fun e w'=>e=.returned (.tuple #[])∧Zas T rest B w' b (.pointer (some ⟨b,0,none⟩)) v bs∧Ub b v w v w':=by
 have c0:w.cell? ⟨b,0,none⟩=some a:=by rw[h.whole.read];rfl
 rcases h.used with hu | hu
 ·rw[hu]at c0
  refine(bd_fresh T (rest.length+2) b w c0 (by rw[h.whole.shape];simp) (by omega) hl (h.whole.thawed 0)).mono ?_;rintro e w' ⟨rfl,rfl⟩;exact⟨rfl,h.self,(Zx.refl _ w).setCell (p:=⟨b,0,none⟩) (.inl rfl) _,fun k hk=>.inl hk⟩
 ·rw[hu]at c0
  refine(bd_used b w c0).mono ?_;rintro e w' ⟨rfl,rfl⟩;subst hu;exact⟨rfl,h,Ub.refl _ _ _⟩
theorem Zas.pushed{T:TypeId}{rest:List Value}{B:Nat}{w w':World}{b:Nat}{a v v':Value}{bs m:List Int}(h:Zas T rest B w b a v bs)(ho:w'.ownsRow B 5 1 v' (bs.length+m.length) ((bs++m).map (Value.int .u8)))(hg:w.grownBy w' v.ownBlock)
  (hat:v'.ownBlock=v.ownBlock∨∃ q,v'.ownBlock=some q∧w.heap.size≤q):Zas T rest B (w'.setCell ⟨b,1,none⟩ v') b a v' (bs++m)∧Ub b v w v' (w'.setCell ⟨b,1,none⟩ v'):=by
 have hk:Zx (fun k=>v.ownBlock=some k) w w':=Zx.grown (Zx.refl _ _) hg fun k hk=>hk
 have hin:=h.whole.inside
 have n1:v'.ownBlock≠some b:=by
  rcases hat with e | ⟨q,e,hq⟩<;>rw[e]
  ·exact h.far
  ·intro c;injection c with c;omega
 refine⟨⟨by have:=(hk.whole h.whole h.far).write 1 v';simpa using this,?_,h.lo,n1,h.used⟩,(hk.mono fun q hq=>.inr hq).setCell (p:=⟨b,1,none⟩) (.inl rfl) _,fun k hk=>?_⟩
 ·rw[List.length_append];exact Zay ho n1 _
 ·rcases hat with e | ⟨q,e,hq⟩
  ·exact .inl (by rw[←e];exact hk)
  ·rw[e]at hk;injection hk with hk;exact .inr (by omega)
theorem und_byt:Tryz.prog.underlying 158=some (.slice 5):=by kernel_rfl
theorem info_byt:(Tryz.prog.info? 5).map (fun i=>(i.zero,i.size,i.bytes))=some (some (.int .u8 0),1,1):=by kernel_rfl
theorem Zit{T:TypeId}{rest:List Value}{B:Nat}{w:World}{b:Nat}{a v:Value}{bs:List Int}(m:List Int)(hm:∀ x ∈ m,0≤x∧x<256)(h:Zas T rest B w b a v bs)(hl:liesAt Tryz.prog Tryz.prog.depth T ((rest.length+2) / Tryz.prog.cellsOf T) 0 160 1=true)
  (hn:bs.length+m.length≤1099511627776)(hB:B≤w.heap.size) :
  Calls Tryz.prog 152 #[.pointer (some ⟨b,0,none⟩),.string (strOfNums m)] w fun e w'=>e=.returned (.tuple #[.int .i64 (m.length:Int),.nilIface])∧∃ v',Zas T rest B w' b (.pointer (some ⟨b,0,none⟩)) v' (bs++m)∧Ub b v w v' w':=by
 have C0:=Hh (bdCheck h hl);have HM:=Hh hm;have HN:=Hh hn;have hms:=strOfNums_size m;clear h hl hm hn;go_enter Tryz.func152,Tryz.ntmps152;go_wp2_with(first
 |(go_at_call 199;refine C0.out.mono ?_;rintro e w1 ⟨rfl,h1,s1⟩
   have H1:=Hh h1;have S1:=Hh s1;have c1:w1.cell? ⟨b,1,none⟩=some v:=by rw[h1.whole.read];rfl
   have z1:=h1.whole.thawed 1;have hsz:=s1.keeps.size;clear h1 s1)
 |(at_builtin;refine wpList_pushAt (.tmp 12) (.tmp 13) 158 9 5 und_byt (by kernel_rfl) info_byt rfl rfl B _ _ bs m rfl H1.out.row rfl HM.out HN.out (Nat.le_trans hB hsz) ?_;intro v2 w2 o2 g2 at2
   obtain⟨A2,d2,rfl,_⟩:=Wd o2;have P2:=Hh (H1.out.pushed o2 g2 (at2.elim .inl fun e=>.inr ⟨_,e,Nat.le_refl _⟩));have hk2:Zx (fun k=>v.ownBlock=some k) w1 w2:=Zx.grown (Zx.refl _ _) g2 fun k hk=>hk
   have z2:=(hk2.whole H1.out.whole H1.out.far).thawed 1;have c2:w2.cell? ⟨b,1,none⟩=some v:=by rw[(hk2.whole H1.out.whole H1.out.far).read];rfl
   clear o2 g2 at2 hk2))
 go_ret2
 exact⟨rfl,_,P2.out.1,S1.out.trans P2.out.2⟩
theorem Zmm{T:TypeId}{rest:List Value}{B:Nat}{w:World}{b:Nat}{a v:Value}{bs:List Int}(c:Int)(h:Zas T rest B w b a v bs)(hl:liesAt Tryz.prog Tryz.prog.depth T ((rest.length+2) / Tryz.prog.cellsOf T) 0 160 1=true)
  (hn:bs.length≤68719476736)(hB:B≤w.heap.size) :
  Calls Tryz.prog 151 #[.pointer (some ⟨b,0,none⟩),.int .u8 c] w fun e w'=>e=.returned .nilIface∧∃ v',Zas T rest B w' b (.pointer (some ⟨b,0,none⟩)) v' (bs++[c])∧Ub b v w v' w':=by
 have C0:=Hh (bdCheck h hl);have HN:=Hh hn;clear h hl hn;go_enter Tryz.func151,Tryz.ntmps151;go_wp2_with(first
 |(go_at_call 199;refine C0.out.mono ?_;rintro e w1 ⟨rfl,h1,s1⟩
   have H1:=Hh h1;have S1:=Hh s1;have c1:w1.cell? ⟨b,1,none⟩=some v:=by rw[h1.whole.read];rfl
   have z1:=h1.whole.thawed 1;have hsz:=s1.keeps.size;clear h1 s1)
 |(at_builtin;refine Vp (.tmp 11) (.tmp 13) 158 5 1 1 _ und_byt info_byt rfl (by decide) (by decide) B v bs.length (bs.map (Value.int .u8)) [.int .u8 c] (Jr H1.out.row (Zh w1 _)) w1.heap.size (Zd.made _ _ _) rfl (by simp[Value.oneCell']) HN.out (by simp;omega) rfl rfl rfl rfl ?_;intro v2 w2 o2 g2 at2
   obtain⟨A2,d2,rfl,_⟩:=Wd o2;have H1':=H1.out.below (Zh w1 (.cells #[.int .u8 c] 5));have P2:=Hh (H1'.pushed (m:=[c]) (by simpa using o2) g2 (at2.elim .inl fun e=>.inr ⟨_,e,Nat.le_refl _⟩));have S2:=Hh (S1.out.trans (Ub.of_below (Zh w1 (.cells #[.int .u8 c] 5))));have hk2:Zx (fun k=>v.ownBlock=some k) _ w2:=Zx.grown (Zx.refl _ _) g2 fun k hk=>hk
   have z2:=(hk2.whole H1'.whole H1'.far).thawed 1;have c2:w2.cell? ⟨b,1,none⟩=some v:=by rw[(hk2.whole H1'.whole H1'.far).read];rfl
   clear o2 g2 at2 hk2 H1'))
 go_ret;exact⟨rfl,_,P2.out.1,S2.out.trans P2.out.2⟩
set_option maxRecDepth 100000 in
theorem bdText{T:TypeId}{rest:List Value}{B:Nat}{w:World}{b:Nat}{a v:Value}(l:List UInt8)(h0:l≠[])(h:Zas T rest B w b a v (l.map fun x=>(x.toNat:Int))) :
  Calls Tryz.prog 106 #[.pointer (some ⟨b,0,none⟩)] w fun e w'=>e=.returned (.string ⟨l.toArray⟩)∧Below B w w':=by
 have hown:=h.row;have c1:w.cell? ⟨b,1,none⟩=some v:=by rw[h.whole.read];rfl
 have hl0:l.length≠0:=by simpa using h0
 rw[List.length_map]at hown
 obtain⟨g,cap,cur,rfl,hbg,hg,hnc,hcm,hcs,htake⟩:∃ g cap cur,v=.slice (some ⟨g,0,none⟩) l.length cap∧B≤g∧w.heap[g]?=some (.cells cur 5 (0,0))∧l.length≤cap∧cap≤maxLen∧cur.size=cap*1∧cur.toList.take (l.length*1)=(l.map fun x=>(x.toNat:Int)).map (Value.int .u8):=by
  rcases hown.2 with⟨_,hz⟩ | ⟨g,cap,cur,hv,r⟩
  ·exact absurd hz hl0
  ·exact⟨g,cap,cur,hv,r⟩
 unfold maxLen at hcm
 have hSD:(Builtin.unsafeSliceData_ #[158] 206 #[.slice (some ⟨g,0,none⟩) l.length cap]).run Tryz.prog w.drew=.ok (.pointer (some ⟨g,0,none⟩)) w.drew:=
  Lib.run_unsafeSliceData_row _ _ _ _ _ _ (by omega)
 have hUS:(Builtin.unsafeString_ #[206,3] 9 #[.pointer (some ⟨g,0,none⟩),.int .i64 l.length]).run Tryz.prog w.drew=.ok (.string ⟨l.toArray⟩) (w.drew.freeze ⟨g,0,none⟩ l.length):=by
  refine Lib.run_unsafeString_row w.drew 206 3 9 5 Tryz.underlying206 (by kernel_rfl) g cur.size (by have hg':w.drew.heap[g]?=some (.cells cur 5 (0,0)):=hg;simp[World.shape?,hg']) l h0 (by omega) (by omega) ?_;intro j x hx;have hj:j<l.length:=(List.getElem?_eq_some_iff.1 hx).1;have h3:=World.ownsRow.cellAt hown j (by omega);have h4:w.cell? ⟨g,j,none⟩=some (.int .u8 x.toNat):=by rw[h3];simp[hx]
  have e:(⟨g,0,none⟩:Addr).add j=⟨g,j,none⟩:=by rw[Addr.add_lit,Nat.zero_add]
  rw[e];exact h4
 clear hown htake hcs hg h;go_enter Tryz.func106,Tryz.ntmps106;go_wp2
 go_region
 all_goals(go_wp2;go_ret;exact⟨rfl,Lib.below_freeze (Below.drew (Below.refl B w)) (p:=⟨g,0,none⟩) hbg _⟩)
theorem Zfi:liesAt Tryz.prog Tryz.prog.depth 162 (3 / Tryz.prog.cellsOf 162) 0 160 1=true:=by kernel_rfl
def spB(lo:Bool)(t:List Int):Bool:=lo && (decide (t≠[59]) && decide (t≠[41]))
def Zgu(s:List Int×Bool)(t:List Int):List Int×Bool:=(s.1++(if spB s.2 t then [32]else [])++t,decide (t≠[40]))
def Zff(s:List Int×Bool)(ts:List (List Int)):List Int×Bool:=ts.foldl Zgu s
theorem puts_len(ts:List (List Int)):∀ s:List Int×Bool,(Zff s ts).1.length≤s.1.length+(ts.map fun t=>t.length+1).sum:=by
 induction ts with
 |nil=>intro s;simp[Zff]
 |cons t r ih=>
  intro s;have h:=ih (Zgu s t);have h2:(Zgu s t).1.length≤s.1.length+(t.length+1):=by unfold Zgu;split<;>simp<;>omega
  simp only[Zff,List.foldl_cons,List.map_cons,List.sum_cons]at h ⊢;omega
theorem puts_take(ts:List (List Int))(s:List Int×Bool){k:Nat}(hk:k<ts.length):Zff s (ts.take (k+1))=Zgu (Zff s (ts.take k)) ts[k]:=by
 unfold Zff;rw[List.take_succ_eq_append_getElem hk,List.foldl_append];rfl
theorem Zas.setLo{T:TypeId}{x:Bool}{B:Nat}{w:World}{b:Nat}{a v:Value}{bs:List Int}(h:Zas T [.bool x] B w b a v bs)(y:Bool):Zas T [.bool y] B (w.setCell ⟨b,2,none⟩ (.bool y)) b a v bs:=
 ⟨by have:=h.whole.write 2 (.bool y);simpa using this,Zay h.row h.far _,h.lo,h.far,h.used⟩
theorem Ub.setLo{b:Nat}{v v':Value}{w w':World}(h:Ub b v w v' w')(y:Value):Ub b v w v' (w'.setCell ⟨b,2,none⟩ y):=
 h.trans ⟨(Zx.refl _ _).setCell (p:=⟨b,2,none⟩) (.inl rfl) _,fun _ hk=>.inl hk⟩
theorem byte1(c:Int)(h:0≤c∧c<256)(t:List Int)(ht:∀ x ∈ t,0≤x∧x<256):((strOfNums t).toList == (strOfNums [c]).toList)=decide (t=[c]):=
 Zld t [c] ht (by intro x hx;cases List.mem_singleton.1 hx;exact h)
theorem s59:(strOfNums [59]).toList=[59]:=by decide +kernel
theorem s41:(strOfNums [41]).toList=[41]:=by decide +kernel
theorem s40:(strOfNums [40]).toList=[40]:=by decide +kernel
theorem prPut(B:Nat)(w:World)(b:Nat)(a v:Value)(s:List Int×Bool)(ts:List (List Int))(q c:Nat)(h:Zas 162 [.bool s.2] B w b a v s.1)(hB:B≤w.heap.size)(hl:s.1.length+(ts.map fun t=>t.length+1).sum≤10000000000)(ht:ts.length≤1000)
  (hby:∀ t ∈ ts,∀ x ∈ t,0≤x∧x<256)(hq:∀ j t,ts[j]?=some t→w.cell? ⟨q,j,none⟩=some (.string (strOfNums t)))(hqs:q<w.heap.size)(hqb:q≠b)(hqv:v.ownBlock≠some q) :
  Calls Tryz.prog 107 #[.pointer (some ⟨b,0,none⟩),.slice (some ⟨q,0,none⟩) ts.length c] w fun e w'=>e=.returned (.tuple #[])∧∃ a' v',Zas 162 [.bool (Zff s ts).2] B w' b a' v' (Zff s ts).1∧Ub b v w v' w':=by
 have H0:=Hh h;have HQ:=Hh hq;have HL:=Hh hl;have HBY:=Hh hby;clear h hq hl hby;go_enter Tryz.func107,Tryz.ntmps107;go_wp2
 go_loopw [8] (fun i wr=>∃(k:Nat)(a' v':Value),i=.int .i64 (k:Int)∧k≤ts.length∧Zas 162 [.bool (Zff s (ts.take k)).2] B wr b a' v' (Zff s (ts.take k)).1∧Ub b v w v' wr) (fun i _=>ts.length - (intOf i).toNat)
 case atStart=>exact⟨0,a,v,rfl,by omega,H0.out,Ub.refl _ _ _⟩
 case round=>
  obtain⟨k,a',v',rfl,hk,hb,hs⟩:=hrel;have hcq:Zx (fun j=>j=b∨v.ownBlock=some j) w wr:=hs.keeps;by_cases hkn:k<ts.length
  · have l1:decide ((k:Int)<(ts.length:Int))=true:=by simp[hkn]
    have hct:wr.cell? ⟨q,k,none⟩=some (.string (strOfNums ts[k])):=by
     rw[World.cell?_of_block (a:=⟨q,k,none⟩) (hcq.block q hqs (fun c=>c.elim hqb hqv))];exact HQ.out k _ (List.getElem?_eq_getElem hkn)
    have hmt:=Hh (HBY.out ts[k] (List.getElem_mem hkn));have hst:=Hh (puts_take ts s hkn)
    have hlk:(Zff s (ts.take k)).1.length+(ts[k].length+1)≤10000000000:=by
     have h1:=puts_len (ts.take k) s
     have h2:((ts.take k).map fun t=>t.length+1).sum+(ts[k].length+1)≤(ts.map fun t=>t.length+1).sum:=by
      have e:ts=ts.take k++ts[k]::ts.drop (k+1):=by rw[List.getElem_cons_drop,List.take_append_drop]
      conv=>rhs;rw[e]
      rw[List.map_append,List.sum_append,List.map_cons,List.sum_cons];omega
     have:=HL.out;omega
    generalize hsk:Zff s (ts.take k)=sk at *;generalize ts[k]=t at *;obtain⟨bs,lo⟩:=sk;simp only at hb hlk hst;have HB:=Hh hb;have HS:=Hh hs;have hc2:wr.cell? ⟨b,2,none⟩=some (.bool lo):=by rw[hb.whole.read];rfl
    have hz2:=hb.whole.thawed 2;clear hb hs hcq hsk;have b40:=byte1 40 (by decide) t hmt.out;have b41:=byte1 41 (by decide) t hmt.out;have b59:=byte1 59 (by decide) t hmt.out;rw[s40]at b40;rw[s41]at b41;rw[s59]at b59;have B40:=Hh b40;have hnl:∀ c:List UInt8,((strOfNums t).toList == c)=false→¬(strOfNums t).toList=c:=fun c h=>by simpa using h
    cases lo with
    |false=>
     have HP:Hid (Zgu (bs,false) t=(bs++t,!((strOfNums t).toList == [40]))):=Hh (by rw[B40.out];simp[Zgu,spB]);clear b40 b41 b59 hnl;go_wp2_with(first
 |(go_at_call 151;refine(Zmm 32 HB.out Zfi (by have:=hlk;omega) (Nat.le_trans hB HS.out.keeps.size)).mono ?_;rintro e w1 ⟨rfl,v1,h1,s1⟩
   have H1:=Hh h1;have S1:=Hh (HS.out.trans s1);clear h1 s1)
 |(go_at_call 152;refine(Zit t hmt.out HB.out Zfi (by have:=hlk;simp;omega) (Nat.le_trans hB HS.out.keeps.size)).mono ?_;rintro e w2 ⟨rfl,v2,h2,s2⟩
   have H2:=Hh h2;have S2:=Hh (HS.out.trans s2);have c2:w2.cell? ⟨b,2,none⟩=some (.bool false):=by rw[h2.whole.read];rfl
   have z2:=h2.whole.thawed 2
   clear h2 s2))
     go_roundw
     case rel=>exact⟨k+1,_,v2,by go_num,by omega,by rw[hst.out,HP.out];exact H2.out.setLo _,S2.out.setLo _⟩
     case measure=>simp[intOf];omega
    |true=>
     by_cases h59:t=[59]
     ·have HP:Hid (Zgu (bs,true) t=(bs++t,!((strOfNums t).toList == [40]))):=Hh (by rw[B40.out];simp[Zgu,spB,h59])
      have g1:((strOfNums t).toList == [59])=true:=by rw[b59];simpa using h59
      have g2:(strOfNums t).toList=[59]:=by simpa using g1
      have G2:=Hh g2;clear b40 b41 b59 hnl h59 g2;go_wp2_with(first
 |(go_at_call 151;refine(Zmm 32 HB.out Zfi (by have:=hlk;omega) (Nat.le_trans hB HS.out.keeps.size)).mono ?_;rintro e w1 ⟨rfl,v1,h1,s1⟩
   have H1:=Hh h1;have S1:=Hh (HS.out.trans s1);clear h1 s1)
 |(go_at_call 152;refine(Zit t hmt.out HB.out Zfi (by have:=hlk;simp;omega) (Nat.le_trans hB HS.out.keeps.size)).mono ?_;rintro e w2 ⟨rfl,v2,h2,s2⟩
   have H2:=Hh h2;have S2:=Hh (HS.out.trans s2);have c2:w2.cell? ⟨b,2,none⟩=some (.bool true):=by rw[h2.whole.read];rfl
   have z2:=h2.whole.thawed 2
   clear h2 s2))
      go_roundw
      case rel=>exact⟨k+1,_,v2,by go_num,by omega,by rw[hst.out,HP.out];exact H2.out.setLo _,S2.out.setLo _⟩
      case measure=>simp[intOf];omega
     ·by_cases h41:t=[41]
      ·have HP:Hid (Zgu (bs,true) t=(bs++t,!((strOfNums t).toList == [40]))):=Hh (by rw[B40.out];simp[Zgu,spB,h41])
       have g1:((strOfNums t).toList == [59])=false:=by rw[b59];simpa using h59
       have g1':=hnl _ g1;have g2:((strOfNums t).toList == [41])=true:=by rw[b41];simpa using h41
       clear b40 b41 b59 hnl h59 h41;go_wp2_with(first
 |(go_at_call 151;refine(Zmm 32 HB.out Zfi (by have:=hlk;omega) (Nat.le_trans hB HS.out.keeps.size)).mono ?_;rintro e w1 ⟨rfl,v1,h1,s1⟩
   have H1:=Hh h1;have S1:=Hh (HS.out.trans s1);clear h1 s1)
 |(go_at_call 152;refine(Zit t hmt.out HB.out Zfi (by have:=hlk;simp;omega) (Nat.le_trans hB HS.out.keeps.size)).mono ?_;rintro e w2 ⟨rfl,v2,h2,s2⟩
   have H2:=Hh h2;have S2:=Hh (HS.out.trans s2);have c2:w2.cell? ⟨b,2,none⟩=some (.bool true):=by rw[h2.whole.read];rfl
   have z2:=h2.whole.thawed 2
   clear h2 s2))
       go_roundw
       case rel=>exact⟨k+1,_,v2,by go_num,by omega,by rw[hst.out,HP.out];exact H2.out.setLo _,S2.out.setLo _⟩
       case measure=>simp[intOf];omega
      ·have HP:Hid (Zgu (bs,true) t=(bs++[32]++t,!((strOfNums t).toList == [40]))):=Hh (by rw[B40.out];simp[Zgu,spB,h59,h41])
       have g1:((strOfNums t).toList == [59])=false:=by rw[b59];simpa using h59
       have g1':=hnl _ g1;have g2:((strOfNums t).toList == [41])=false:=by rw[b41];simpa using h41
       have g2':=hnl _ g2;clear b40 b41 b59 hnl h59 h41;go_wp2_with(first
 |(go_at_call 151;refine(Zmm 32 HB.out Zfi (by have:=hlk;omega) (Nat.le_trans hB HS.out.keeps.size)).mono ?_;rintro e w1 ⟨rfl,v1,h1,s1⟩
   have H1:=Hh h1;have S1:=Hh (HS.out.trans s1);clear h1 s1)
 |(go_at_call 152;refine(Zit t hmt.out H1.out Zfi (by have:=hlk;simp;omega) (Nat.le_trans hB S1.out.keeps.size)).mono ?_;rintro e w2 ⟨rfl,v2,h2,s2⟩
   have H2:=Hh h2;have S2:=Hh (S1.out.trans s2);have c2:w2.cell? ⟨b,2,none⟩=some (.bool true):=by rw[h2.whole.read];rfl
   have z2:=h2.whole.thawed 2
   clear h2 s2))
       go_roundw
       case rel=>exact⟨k+1,_,v2,by go_num,by omega,by rw[hst.out,HP.out];exact H2.out.setLo _,S2.out.setLo _⟩
       case measure=>simp[intOf];omega
  · obtain rfl:k=ts.length:=by omega
    rw[List.take_length]at hb;have HB:=Hh hb;have HS:=Hh hs;clear hb hs hcq;go_wp2
    go_end0
    exact⟨rfl,_,_,HB.out,HS.out⟩
theorem lastDigit_any(n:Int)(h1 : -9223372036854775808≤n)(h2:n≤9223372036854775807)(w:World):Calls Tryz.prog 153 #[.int .i64 n] w fun e w'=>e=.returned (.int .u8 (48+((n.natAbs % 10:Nat):Int)))∧w=w':=by
 have ha:(n.tmod 10).natAbs=n.natAbs % 10:=Int.natAbs_tmod n 10;have hr:n.tmod 10<10 ∧ -10<n.tmod 10:=by omega
 by_cases hn:n.tmod 10<0
 ·go_enter Tryz.func153,Tryz.ntmps153
  go_wp2
  go_ret;refine⟨rI ?_,rfl⟩;omega
 ·go_enter Tryz.func153,Tryz.ntmps153
  go_wp2
  go_ret;refine⟨rI ?_,rfl⟩;omega
theorem slice20(g:Nat)(z:Int)(f:Nat)(hz:z.toNat=f)(h0:0≤z)(h1:f<20)(W:World) :
  (Instr.sliceAt 212 (.pointer (some ⟨g,0,none⟩)) (some (.int .i64 z)) none none).run Tryz.prog W=.ok (.slice (some ⟨g,f,none⟩) (20 - f) (20 - f)) W:=by
 have hu:Tryz.prog.underlying 212=some (.array (Tryz.prog.arrayLen 212) (Tryz.prog.elem 212)):=by kernel_rfl
 have hl:Tryz.prog.arrayLen 212=20:=by kernel_rfl
 have he:Tryz.prog.elem 212=5:=by kernel_rfl
 have hs:(sizeOf 5).run Tryz.prog W=.ok 1 W:=by kernel_rfl
 rw[run_sliceAt_array_l W _ _ hu .i64 z h0 (by rw[hl];omega),he,hs,hl,hz];have hne:¬ 20=f:=by omega
 simp[slicedAt,hne,Addr.add_lit]
theorem conv_tail{W:World}{g f len:Nat}{t:TypeId}{cs:Array Value}{l:List Int}(hw:Zd W g t cs)(ht:Ziu cs f l)(hl:len=l.length) :
  ∀ dst,Tryz.prog.underlying dst=some .string→(convert 158 dst (.slice (some ⟨g,f,none⟩) len len)).run Tryz.prog W=.ok (.string (strOfNums l)) W:=
 run_convert_bytes_arg _ 158 5 (by kernel_rfl) (by kernel_rfl) g f len len l hl.symm (fun i hi=>ht.cells hw i (by omega))
theorem put_done{n m:Int}{k:Nat}{ds:List Int}(hd:k=0∧m=n∧ds=[]∨m≠0∧m.natAbs*10 ^ k≤n.natAbs∧Zds n.natAbs=Zds m.natAbs++ds)(hq:m.natAbs / 10=0):Zds n.natAbs=(48+(m.natAbs:Int) % 10)::ds:=by
 have hm:Zds m.natAbs=[48+(m.natAbs:Int) % 10]:=by rw[Zeh (by omega)];congr 1;omega
 rcases hd with⟨_,rfl,rfl⟩ | ⟨_,_,h⟩
 ·exact hm
 ·rw[h,hm];rfl
theorem put_round{n m:Int}{k:Nat}{ds:List Int}(hd:k=0∧m=n∧ds=[]∨m≠0∧m.natAbs*10 ^ k≤n.natAbs∧Zds n.natAbs=Zds m.natAbs++ds)(hq:(m.tdiv 10).natAbs=m.natAbs / 10)(hz:m.tdiv 10≠0) :
  m.tdiv 10≠0∧(m.tdiv 10).natAbs*10 ^ (k+1)≤n.natAbs∧Zds n.natAbs=Zds (m.tdiv 10).natAbs++((48+(m.natAbs:Int) % 10)::ds):=by
 have hm:Zds m.natAbs=Zds (m.tdiv 10).natAbs++[48+(m.natAbs:Int) % 10]:=by rw[Zgb (by omega),hq];congr 2
 refine⟨hz,?_,?_⟩
 ·have h1:m.natAbs*10 ^ k≤n.natAbs:=by
   rcases hd with⟨rfl,rfl,_⟩ | ⟨_,h,_⟩
   ·omega
   ·exact h
  rw[hq,Nat.pow_succ,Nat.mul_comm (10 ^ k) 10,←Nat.mul_assoc];exact Nat.le_trans (Nat.mul_le_mul_right _ (Nat.div_mul_le_self _ _)) h1
 ·rcases hd with⟨_,rfl,rfl⟩ | ⟨_,_,h⟩
  ·exact hm
  ·rw[h,hm,List.append_assoc];rfl
theorem putS_neg{n:Int}{l:List Int}(hn:n<0)(h:Zds n.natAbs=l):Wl n=strOfNums (45::l):=by
 unfold Wl;rw[Zma hn,show(-n).toNat=n.natAbs from by omega,h]
theorem putS_pos{n:Int}{l:List Int}(hn:0≤n)(h:Zds n.natAbs=l):Wl n=strOfNums l:=by
 unfold Wl;rw[Zfh hn,show n.toNat=n.natAbs from by omega,h]
theorem tail_len{cs:Array Value}{f:Nat}{l:List Int}(h:Ziu cs f l)(hc:cs.size=20):l.length=20 - f:=by have:=h.1;omega
theorem dPut_any(n:Int)(h1 : -9223372036854775808≤n)(h2:n≤9223372036854775807)(w:World):Calls Tryz.prog 109 #[.int .i64 n] w fun e w'=>e=.returned (.string (Wl n))∧Below w.heap.size w w':=by
 go_enter Tryz.func109,Tryz.ntmps109;go_wp2
 go_loopw [4,5,7] (fun f r i wr=>∃(k:Nat)(m:Int)(ds:List Int)(cs:Array Value),k≤18∧i=.int .i64 k∧f=.int .i64 (20 - (k:Int))∧r=.int .i64 m ∧ -9223372036854775808≤m∧m≤9223372036854775807∧(k=0∧m=n∧ds=[]∨m≠0∧m.natAbs*10 ^ k≤n.natAbs∧Zds n.natAbs=Zds m.natAbs++ds)∧cs.size=20∧Ziu cs (20 - k) ds∧Zd wr w.heap.size 212 cs∧Below w.heap.size w wr) (fun _ _ i _=>20 - (intOf i).toNat)
 case atStart=>exact⟨0,n,[],_,by omega,rfl,rfl,rfl,h1,h2,.inl ⟨rfl,rfl,rfl⟩,rfl,⟨rfl,fun j hj=>by simp at hj⟩,Zd.made _ _ _,(Below.refl _ _).alloc (Nat.le_refl _) _⟩
 case round=>
  obtain⟨k,m,ds,cs,hk,rfl,rfl,rfl,hm1,hm2,hd,hc,ht,hw,hb⟩:=hrel;have hi:k<20:=by omega
  have hcell:wr.cell? ⟨w.heap.size,19 - k,none⟩=some (cs[19 - k]'(by omega)):=by rw[hw.read,Array.getElem?_eq_getElem]
  have hfz:=hw.thawed (19 - k);have i0:(0:Int)≤20 - (k:Int) - 1:=by omega
  have i1:(20 - (k:Int) - 1).toNat=19 - k:=by omega
  have HB:=Hh hb;have HW:=Hh hw;have HT:=Hh ht;have HD:=Hh hd;clear hb hw ht hd;have hlast:∀ x,Calls Tryz.prog 153 #[.int .i64 m] x fun e w'=>e=.returned (.int .u8 (48+((m.natAbs % 10:Nat):Int)))∧x=w':=fun x=>lastDigit_any m hm1 hm2 x
  have hq:(m.tdiv 10).natAbs=m.natAbs / 10:=Int.natAbs_tdiv m 10;have t0:=HT.out;rw[show 20 - k=19 - k+1 from by omega]at t0;have T1:=Hh (t0.next (48+(m.natAbs:Int) % 10));clear t0;cases hz:(m.tdiv 10 == 0)with
  |true=>
   by_cases hn:n<0
   ·have hcell2:wr.cell? ⟨w.heap.size,19 - k - 1,none⟩=some (cs[19 - k - 1]'(by omega)):=by rw[HW.out.read,Array.getElem?_eq_getElem]
    have hfz2:=HW.out.thawed (19 - k - 1);have hsl:=slice20 w.heap.size (20 - (k:Int) - 1 - 1) (19 - k - 1) (by omega) (by omega) (by omega);have t1:=T1.out;rw[show 19 - k=19 - k - 1+1 from by omega]at t1;have t2:=t1.next 45;rw[show 19 - k - 1+1=19 - k from by omega]at t2;have hcv:=conv_tail (len:=20 - (19 - k - 1)) ((HW.out.write (19 - k) (.int .u8 (48+(m.natAbs:Int) % 10))).write (19 - k - 1) (.int .u8 45)) t2 (by rw[tail_len t2 (by simp[hc])]);clear t1 t2;go_wp2_with(go_at_call 153;refine(hlast _).mono ?_;rintro e w' ⟨rfl,rfl⟩)
    go_ret;refine⟨?_,(HB.out.setCell (Nat.le_refl _) _).setCell (Nat.le_refl _) _⟩;rw[putS_neg hn (put_done HD.out (by have:=eq_of_beq hz;omega))];rfl
   ·have hsl:=slice20 w.heap.size (20 - (k:Int) - 1) (19 - k) (by omega) (by omega) (by omega)
    have t1:=T1.out;have hcv:=conv_tail (len:=20 - (19 - k)) (HW.out.write (19 - k) (.int .u8 (48+(m.natAbs:Int) % 10))) t1 (by rw[tail_len t1 (by simp[hc])]);clear t1;go_wp2_with(go_at_call 153;refine(hlast _).mono ?_;rintro e w' ⟨rfl,rfl⟩)
    go_ret;refine⟨?_,HB.out.setCell (Nat.le_refl _) _⟩;rw[putS_pos (by omega) (put_done HD.out (by have:=eq_of_beq hz;omega))];rfl
  |false=>
   have hr:=Hh (put_round HD.out hq (by intro c;rw[c]at hz;cases hz))
   have hk1:k+1≤18:=by
    apply Nat.le_of_not_lt;intro c;have:10 ^ 19≤10 ^ (k+1):=Nat.pow_le_pow_right (by omega) (by omega);have h0:1≤(m.tdiv 10).natAbs:=by have:=hr.out.1;omega
    have:=Nat.mul_le_mul h0 this;have:=hr.out.2.1;omega
   go_wp2_with(go_at_call 153;refine(hlast _).mono ?_;rintro e w' ⟨rfl,rfl⟩)
   go_roundw
   case rel=>
    have t1:Ziu (cs.setIfInBounds (19 - k) (.int .u8 (48+(m.natAbs:Int) % 10))) (20 - (k+1)) ((48+(m.natAbs:Int) % 10)::ds):=by
     rw[show 20 - (k+1)=19 - k from by omega];exact T1.out
    exact⟨k+1,m.tdiv 10,_,_,hk1,by go_num,by go_num,rfl,by omega,by omega,.inr hr.out,by simp[hc],t1,HW.out.write _ _,HB.out.setCell (Nat.le_refl _) _⟩
   case measure=>simp[intOf];omega
def Zdu(l:List ByteArray):Array Value:=(l.map Value.string).toArray
def Zt(s:List Int×Bool)(ts:List ByteArray):List Int×Bool:=Zff s (ts.map bL)
theorem Yn(s:List Int×Bool)(a b:List ByteArray):Zt s (a++b)=Zt (Zt s a) b:=by simp[Zt,Zff,List.foldl_append]
def Vg(ts:List ByteArray):Nat:=(ts.map fun t=>t.size+1).sum
theorem Xs(a b:List ByteArray):Vg (a++b)=Vg a+Vg b:=by simp[Vg]
theorem Zmy(ts:List ByteArray)(s:List Int×Bool):(Zt s ts).1.length≤s.1.length+Vg ts:=by
 have h:=puts_len (ts.map bL) s;have e:((ts.map bL).map fun t=>t.length+1)=ts.map fun t=>t.size+1:=by rw[List.map_map];exact List.map_congr_left fun t _=>by simp[Vm]
 rw[e]at h;exact h
theorem Zlh(B:Nat)(x:World)(b:Nat)(a v:Value)(s:List Int×Bool)(ts:List ByteArray)(q n c:Nat)(h:Zas 162 [.bool s.2] B x b a v s.1)(hB:B≤x.heap.size)(hl:s.1.length+Vg ts≤10000000000)(ht:ts.length≤1000)(hq:q=x.heap.size)(hn:n=ts.length) :
  Calls Tryz.prog 107 #[.pointer (some ⟨b,0,none⟩),.slice (some ⟨q,0,none⟩) n c] (x.alloc (.cells (Zdu ts) 9)) fun e w'=>e=.returned (.tuple #[])∧∃ a' v',Zas 162 [.bool (Zt s ts).2] B w' b a' v' (Zt s ts).1∧Ub b v x v' w':=by
 subst hq hn;have hlen:(ts.map bL).length=ts.length:=by simp
 have e:((ts.map bL).map fun t=>t.length+1)=ts.map fun t=>t.size+1:=by rw[List.map_map];exact List.map_congr_left fun t _=>by simp[Vm]
 have hc:=prPut B (x.alloc (.cells (Zdu ts) 9)) b a v s (ts.map bL) x.heap.size c (h.below (Zh x _)) (Nat.le_trans hB (Zh x (.cells (Zdu ts) 9)).size) (by rw[e];exact hl) (by rw[hlen];exact ht)
  (fun t ht y hy=>by obtain⟨u,_,rfl⟩:=List.mem_map.1 ht;exact Ziy u y hy)
  (fun j t hj=>by
    rw[(Zd.made x 9 (Zdu ts)).read];rw[List.getElem?_map]at hj;obtain⟨u,hu,rfl⟩:=Option.map_eq_some_iff.1 hj;simp[Zdu,hu,Zgl])
  (by simp) (by have:=h.whole.inside;omega) (fun c=>by have:=(h.row.lt _ c).2;omega)
 rw[hlen]at hc;refine hc.mono ?_;rintro e w' ⟨rfl,a',v',h1,s1⟩;exact⟨rfl,a',v',h1,(Ub.of_below (Zh x _)).trans s1⟩
theorem uWordL(x:World)(k:Int)(q n c:Nat)(L:List ByteArray)(hq:q=x.heap.size)(hn:n=L.length)(h1:1≤k)(h2:k≤L.length)(h3:L.length≤1000) :
  Calls Tryz.prog 117 #[.int .i64 k,.slice (some ⟨q,0,none⟩) n c] (x.alloc (.cells (Zdu L) 9)) fun e w'=>e=.returned (.string (wd L k))∧x.alloc (.cells (Zdu L) 9)=w':=by
 subst hq hn;obtain⟨j,hj⟩:∃ j:Nat,k=(j:Int)+1:=⟨(k - 1).toNat,by omega⟩
 subst hj;have hjl:j<L.length:=by omega
 have hw:wd L ((j:Int)+1)=L[j]:=by
  have e:((j:Int)+1).toNat - 1=j:=by omega
  unfold wd;rw[e,List.getElem?_eq_getElem hjl];rfl
 have hc:(x.alloc (.cells (Zdu L) 9)).cell? ⟨x.heap.size,j,none⟩=some (.string (wd L ((j:Int)+1))):=by
  rw[(Zd.made x 9 (Zdu L)).read,hw];simp[Zdu,hjl]
 generalize x.alloc (.cells (Zdu L) 9)=y at *;generalize wd L ((j:Int)+1)=t at *;have l1:(1:Int)≤(j:Int)+1:=by omega
 have l2:(j:Int)+1≤(L.length:Int):=by omega
 have l3:((j:Int)+1 - 1).toNat=j:=by omega
 have l4:(j:Int)<(L.length:Int):=by omega
 clear hw h1 h2;go_enter Tryz.func117,Tryz.ntmps117;go_wp2
 go_ret;exact⟨rfl,rfl⟩
theorem uSide(k:Int)(w:World)(h1:1≤k)(h2:k≤3):Calls Tryz.prog 118 #[.int .i64 k] w fun e w'=>e=.returned (.string (wd Zg k))∧Below w.heap.size w w':=by
 have B1:=Hh (Zh w (.cells (Zdu Zg) 9));go_enter Tryz.func118,Tryz.ntmps118;go_wp2_with(go_at_call 117;refine(uWordL w k _ 3 3 Zg rfl rfl h1 h2 (by decide)).mono ?_;rintro e w1 ⟨rfl,rfl⟩)
 go_ret;exact⟨rfl,B1.out⟩
theorem uOp(k:Int)(w:World)(h1:1≤k)(h2:k≤6):Calls Tryz.prog 161 #[.int .i64 k] w fun e w'=>e=.returned (.string (wd wOp k))∧Below w.heap.size w w':=by
 have B1:=Hh (Zh w (.cells (Zdu wOp) 9));go_enter Tryz.func161,Tryz.ntmps161;go_wp2_with(go_at_call 117;refine(uWordL w k _ 6 6 wOp rfl rfl h1 h2 (by decide)).mono ?_;rintro e w1 ⟨rfl,rfl⟩)
 go_ret;exact⟨rfl,B1.out⟩
def qN(s:ByteArray):ByteArray:=⟨#[34]⟩++s++⟨#[34]⟩
theorem Zoo(s:ByteArray):(qN s).size=s.size+2:=by
 unfold qN;rw[ByteArray.size_append,ByteArray.size_append];have e:(⟨#[34]⟩:ByteArray).size=1:=rfl;rw[e];omega
theorem uName(s:ByteArray)(w:World)(hs:s.size≤10000000000):Calls Tryz.prog 108 #[.string s] w fun e w'=>e=.returned (.string (qN s))∧w=w':=by
 go_enter Tryz.func108,Tryz.ntmps108;go_wp2
 go_ret;exact⟨rfl,rfl⟩
structure PrR(B:Nat)(w:World)(b:Nat)(v:Value)(st:List Int×Bool)(g1:Nat)(t1:TypeId)(xv:List Value)(a' v':Value)(x:World):Prop where
 bd:Zas 162 [.bool st.2] B x b a' v' st.1
 step:Ub b v w v' x
 box:Zd x g1 t1 xv.toArray
 ne:g1≠b
 far:v'.ownBlock≠some g1
theorem PrR.next{B:Nat}{w x y:World}{b:Nat}{v:Value}{st:List Int×Bool}{g1:Nat}{t1:TypeId}{xv:List Value}{a' v':Value}(h:PrR B w b v st g1 t1 xv a' v' x)(hb:Below x.heap.size x y):PrR B w b v st g1 t1 xv a' v' y:=
 ⟨h.bd.below hb,h.step.trans (Ub.of_below hb),h.box.below hb h.box.inside,h.ne,h.far⟩
theorem PrR.write{B:Nat}{w x y:World}{b:Nat}{v:Value}{st st2:List Int×Bool}{g1:Nat}{t1:TypeId}{xv:List Value}{a' v' a2 v2:Value}(h:PrR B w b v st g1 t1 xv a' v' x)(hb:Zas 162 [.bool st2.2] B y b a2 v2 st2.1)(hs:Ub b v' x v2 y):PrR B w b v st2 g1 t1 xv a2 v2 y:=
 ⟨hb,h.step.trans hs,hs.keeps.whole h.box (fun c=>c.elim h.ne h.far),h.ne,fun c=>by
   rcases hs.fresh _ c with e | e
   ·exact h.far e
   ·have:=h.box.inside;omega⟩
theorem PrR.start{B:Nat}{w:World}{b:Nat}{a v:Value}{st:List Int×Bool}(h:Zas 162 [.bool st.2] B w b a v st.1)(t1:TypeId)(xv:List Value):PrR B w b v st w.heap.size t1 xv a v (w.alloc (.cells xv.toArray t1)):=
 ⟨h.below (Zh w _),Ub.of_below (Zh w _),Zd.made _ _ _,by have:=h.whole.inside;omega,fun c=>by have:=(h.row.lt _ c).2;omega⟩
def kFl(f:Fl):List ByteArray:=
 if f.kind=1∨f.kind=2 then [wd Ye f.kind,wd wOp f.op,Wl f.n]else if f.kind=3 then [wd Ye 3,qN f.name]else [wd Ye 4,wd Vb (f.kind - 3)]
def Zkg(B:Nat)(w:World)(b:Nat)(v:Value)(st:List Int×Bool)(e:Ending)(w':World):Prop:=
 e=.returned (.tuple #[])∧∃ a' v',Zas 162 [.bool st.2] B w' b a' v' st.1∧Ub b v w v' w'
theorem fl_num1(B:Nat)(w:World)(b:Nat)(a v:Value)(st:List Int×Bool)(o n:Int)(nm:ByteArray)(h:Zas 162 [.bool st.2] B w b a v st.1)(hB:B≤w.heap.size)(hl:st.1.length+Vg [wd Ye 1,wd wOp o,Wl n]≤10000000000)(ho1:1≤o)(ho2:o≤6)(hn1 : -99≤n)(hn2:n≤99) :
  Calls Tryz.prog 119 #[.pointer (some ⟨b,0,none⟩),.agg #[.int .i64 1,.int .i64 o,.int .i64 n,.string nm]] w (Zkg B w b v (Zt st [wd Ye 1,wd wOp o,Wl n])):=by
 have R0:=Hh (PrR.start h 115 [.int .i64 1,.int .i64 o,.int .i64 n,.string nm]);have HL:=Hh hl;have hw:wd Ye 1=⟨#[99,111,115,116]⟩:=by decide +kernel
 have HW:=Hh hw;clear h hl hw;go_enter Tryz.func119,Tryz.ntmps119;go_wp2_with fail
 have R1:=Hh (R0.out.next (y:=(w.alloc (.cells #[.int .i64 1,.int .i64 o,.int .i64 n,.string nm] 115)).drew) ⟨rfl,rfl,rfl,Nat.le_refl _,fun _ _=>rfl⟩);go_region_with(first
 |(go_at_call 161;refine(uOp o _ ho1 ho2).mono ?_;rintro e w5 ⟨rfl,b5⟩
   have R5:=Hh (R1.out.next b5);have i2:w5.cell? ⟨w.heap.size,2,none⟩=some (.int .i64 n):=by rw[R5.out.box.read];rfl
   clear b5)
 |(go_at_call 109;refine(dPut_any n (by omega) (by omega) _).mono ?_;rintro e w6 ⟨rfl,b6⟩
   have R6:=Hh (R5.out.next b6);clear b6)
 |(go_at_call 107;refine(Zlh B w6 b a v st [⟨#[99,111,115,116]⟩,wd wOp o,Wl n] w6.heap.size 3 3 R6.out.bd (Nat.le_trans hB R6.out.step.keeps.size) (by have:=HL.out;rw[HW.out]at this;exact this) (by simp) rfl rfl).mono ?_;rintro e w7 ⟨rfl,a7,v7,h7,s7⟩
   have H7:=Hh h7;have S7:=Hh (R6.out.step.trans s7);clear h7 s7))
 all_goals
  go_wp2
  go_end0
  rw[HW.out];exact⟨rfl,a7,v7,H7.out,S7.out⟩
theorem fl_num2(B:Nat)(w:World)(b:Nat)(a v:Value)(st:List Int×Bool)(o n:Int)(nm:ByteArray)(h:Zas 162 [.bool st.2] B w b a v st.1)(hB:B≤w.heap.size)(hl:st.1.length+Vg [wd Ye 2,wd wOp o,Wl n]≤10000000000)(ho1:1≤o)(ho2:o≤6)(hn1 : -99≤n)(hn2:n≤99) :
  Calls Tryz.prog 119 #[.pointer (some ⟨b,0,none⟩),.agg #[.int .i64 2,.int .i64 o,.int .i64 n,.string nm]] w (Zkg B w b v (Zt st [wd Ye 2,wd wOp o,Wl n])):=by
 have R0:=Hh (PrR.start h 115 [.int .i64 2,.int .i64 o,.int .i64 n,.string nm]);have HL:=Hh hl;have hw:wd Ye 2=⟨#[112,111,119,101,114]⟩:=by decide +kernel
 have HW:=Hh hw;clear h hl hw;go_enter Tryz.func119,Tryz.ntmps119;go_wp2_with fail
 have R1:=Hh (R0.out.next (y:=(w.alloc (.cells #[.int .i64 2,.int .i64 o,.int .i64 n,.string nm] 115)).drew) ⟨rfl,rfl,rfl,Nat.le_refl _,fun _ _=>rfl⟩);go_region_with(first
 |(go_at_call 161;refine(uOp o _ ho1 ho2).mono ?_;rintro e w5 ⟨rfl,b5⟩
   have R5:=Hh (R1.out.next b5);have i2:w5.cell? ⟨w.heap.size,2,none⟩=some (.int .i64 n):=by rw[R5.out.box.read];rfl
   clear b5)
 |(go_at_call 109;refine(dPut_any n (by omega) (by omega) _).mono ?_;rintro e w6 ⟨rfl,b6⟩
   have R6:=Hh (R5.out.next b6);clear b6)
 |(go_at_call 107;refine(Zlh B w6 b a v st [⟨#[112,111,119,101,114]⟩,wd wOp o,Wl n] w6.heap.size 3 3 R6.out.bd (Nat.le_trans hB R6.out.step.keeps.size) (by have:=HL.out;rw[HW.out]at this;exact this) (by simp) rfl rfl).mono ?_;rintro e w7 ⟨rfl,a7,v7,h7,s7⟩
   have H7:=Hh h7;have S7:=Hh (R6.out.step.trans s7);clear h7 s7))
 all_goals
  go_wp2
  go_end0
  rw[HW.out];exact⟨rfl,a7,v7,H7.out,S7.out⟩
theorem fl_named(B:Nat)(w:World)(b:Nat)(a v:Value)(st:List Int×Bool)(o n:Int)(nm:ByteArray)(h:Zas 162 [.bool st.2] B w b a v st.1)(hB:B≤w.heap.size)(hl:st.1.length+Vg [wd Ye 3,qN nm]≤10000000000) :
  Calls Tryz.prog 119 #[.pointer (some ⟨b,0,none⟩),.agg #[.int .i64 3,.int .i64 o,.int .i64 n,.string nm]] w (Zkg B w b v (Zt st [wd Ye 3,qN nm])):=by
 have R0:=Hh (PrR.start h 115 [.int .i64 3,.int .i64 o,.int .i64 n,.string nm]);have HL:=Hh hl;have hw:[wd Ye 3,qN nm]=[⟨#[110,97,109,101,100]⟩,qN nm]:=by rw[show wd Ye 3=⟨#[110,97,109,101,100]⟩ by decide +kernel]
 have HW:=Hh hw;have HNM:Hid (nm.size≤10000000000):=Hh (by have h2:=hl;simp[Vg,Zoo]at h2;omega);clear h hl hw;go_enter Tryz.func119,Tryz.ntmps119;go_wp2_with(first
 |(go_at_call 108;refine(uName nm _ HNM.out).mono ?_;rintro e w5 ⟨rfl,rfl⟩)
 |(go_at_call 107;refine(Zlh B (w.alloc (.cells #[.int .i64 3,.int .i64 o,.int .i64 n,.string nm] 115)) b a v st [⟨#[110,97,109,101,100]⟩,qN nm] (w.heap.size+1) 2 2 R0.out.bd (Nat.le_trans hB R0.out.step.keeps.size) (by have:=HL.out;rw[HW.out]at this;exact this) (by simp) (by simp) rfl).mono ?_;rintro e w7 ⟨rfl,a7,v7,h7,s7⟩
   have H7:=Hh h7;have S7:=Hh (R0.out.step.trans s7);clear h7 s7))
 go_end0
 rw[HW.out];exact⟨rfl,a7,v7,H7.out,S7.out⟩
theorem fl_me(B:Nat)(w:World)(b:Nat)(a v:Value)(st:List Int×Bool)(o n:Int)(nm:ByteArray)(h:Zas 162 [.bool st.2] B w b a v st.1)(hB:B≤w.heap.size)(hl:st.1.length+Vg [wd Ye 4,wd Vb 1]≤10000000000) :
  Calls Tryz.prog 119 #[.pointer (some ⟨b,0,none⟩),.agg #[.int .i64 4,.int .i64 o,.int .i64 n,.string nm]] w (Zkg B w b v (Zt st [wd Ye 4,wd Vb 1])):=by
 have R0:=Hh (PrR.start h 115 [.int .i64 4,.int .i64 o,.int .i64 n,.string nm]);have HL:=Hh hl;have hw:[wd Ye 4,wd Vb 1]=[⟨#[110,111,116]⟩,⟨#[109,101]⟩]:=by rw[show wd Ye 4=⟨#[110,111,116]⟩ by decide +kernel,show wd Vb 1=⟨#[109,101]⟩ by decide +kernel]
 have HW:=Hh hw;clear h hl hw;go_enter Tryz.func119,Tryz.ntmps119;go_wp2_with(first
 |(go_at_call 108;refine(uName nm _ HNM.out).mono ?_;rintro e w5 ⟨rfl,rfl⟩)
 |(go_at_call 107;refine(Zlh B (w.alloc (.cells #[.int .i64 4,.int .i64 o,.int .i64 n,.string nm] 115)) b a v st [⟨#[110,111,116]⟩,⟨#[109,101]⟩] (w.heap.size+1) 2 2 R0.out.bd (Nat.le_trans hB R0.out.step.keeps.size) (by have:=HL.out;rw[HW.out]at this;exact this) (by simp) (by simp) rfl).mono ?_;rintro e w7 ⟨rfl,a7,v7,h7,s7⟩
   have H7:=Hh h7;have S7:=Hh (R0.out.step.trans s7);clear h7 s7))
 go_end0
 rw[HW.out];exact⟨rfl,a7,v7,H7.out,S7.out⟩
theorem fl_it(B:Nat)(w:World)(b:Nat)(a v:Value)(st:List Int×Bool)(o n:Int)(nm:ByteArray)(h:Zas 162 [.bool st.2] B w b a v st.1)(hB:B≤w.heap.size)(hl:st.1.length+Vg [wd Ye 4,wd Vb 2]≤10000000000) :
  Calls Tryz.prog 119 #[.pointer (some ⟨b,0,none⟩),.agg #[.int .i64 5,.int .i64 o,.int .i64 n,.string nm]] w (Zkg B w b v (Zt st [wd Ye 4,wd Vb 2])):=by
 have R0:=Hh (PrR.start h 115 [.int .i64 5,.int .i64 o,.int .i64 n,.string nm]);have HL:=Hh hl;have hw:[wd Ye 4,wd Vb 2]=[⟨#[110,111,116]⟩,⟨#[105,116]⟩]:=by rw[show wd Ye 4=⟨#[110,111,116]⟩ by decide +kernel,show wd Vb 2=⟨#[105,116]⟩ by decide +kernel]
 have HW:=Hh hw;clear h hl hw;go_enter Tryz.func119,Tryz.ntmps119;go_wp2_with(first
 |(go_at_call 108;refine(uName nm _ HNM.out).mono ?_;rintro e w5 ⟨rfl,rfl⟩)
 |(go_at_call 107;refine(Zlh B (w.alloc (.cells #[.int .i64 5,.int .i64 o,.int .i64 n,.string nm] 115)) b a v st [⟨#[110,111,116]⟩,⟨#[105,116]⟩] (w.heap.size+1) 2 2 R0.out.bd (Nat.le_trans hB R0.out.step.keeps.size) (by have:=HL.out;rw[HW.out]at this;exact this) (by simp) (by simp) rfl).mono ?_;rintro e w7 ⟨rfl,a7,v7,h7,s7⟩
   have H7:=Hh h7;have S7:=Hh (R0.out.step.trans s7);clear h7 s7))
 go_end0
 rw[HW.out];exact⟨rfl,a7,v7,H7.out,S7.out⟩
theorem prFilter(B:Nat)(w:World)(b:Nat)(a v:Value)(st:List Int×Bool)(f:Fl)(hv:VFl f)(h:Zas 162 [.bool st.2] B w b a v st.1)(hB:B≤w.heap.size)(hl:st.1.length+Vg (kFl f)≤10000000000) :
  Calls Tryz.prog 119 #[.pointer (some ⟨b,0,none⟩),.agg #[.int .i64 f.kind,.int .i64 f.op,.int .i64 f.n,.string f.name]] w (Zkg B w b v (Zt st (kFl f))):=by
 obtain⟨kd,o,n,nm⟩:=f;unfold kFl at hl ⊢;simp only at hl ⊢;rcases hv with⟨hk,ho,hn,_⟩ | ⟨hk,_,_,hm⟩ | ⟨hk,_⟩
 ·simp only at hk ho hn
  rw[if_pos hk]at hl ⊢;rcases hk with rfl | rfl
  ·exact fl_num1 B w b a v st o n nm h hB hl ho.1 ho.2 hn.1 hn.2
  ·exact fl_num2 B w b a v st o n nm h hB hl ho.1 ho.2 hn.1 hn.2
 ·simp only at hk hm
  subst hk;exact fl_named B w b a v st o n nm h hB hl
 ·simp only at hk
  rcases hk with rfl | rfl
  ·exact fl_me B w b a v st o n nm h hB hl
  ·exact fl_it B w b a v st o n nm h hB hl
def Uj(c:Nat):St→Value
 |.ok _ _=>.pointer (some ⟨c,0,none⟩)
 |.bad _=>.pointer none
def Xb:St→Int×Nat×Nat
 |.ok _ _=>okF
 |.bad F=>F
structure PAt(w:World)(q c r K:Nat)(L:List TokV)(st:St):Prop where
 whole:Zd w q 185 #[Uj c st,.int .i64 (Xb st).1,.int .i64 ((Xb st).2.1:Int),.int .i64 ((Xb st).2.2:Int)]
 cur:∀ a d,st=.ok a d→q≠c∧q≠r∧Vx w c r K L a d
 flt:∀ F,st=.bad F→F.1≠0
 cin:c<w.heap.size
 rin:r<w.heap.size
theorem PAt.keeps{w w':World}{q c r K:Nat}{L:List TokV}{st:St}(h:PAt w q c r K L st){S:Nat→Prop}(hk:Zx S w w')(hq:¬ S q)(hc:¬ S c)(hr:¬ S r):PAt w' q c r K L st:=
 ⟨hk.whole h.whole hq,fun a d e=>⟨(h.cur a d e).1,(h.cur a d e).2.1,(h.cur a d e).2.2.keeps hk hc hr⟩,h.flt,Nat.lt_of_lt_of_le h.cin hk.size,Nat.lt_of_lt_of_le h.rin hk.size⟩
theorem PAt.below{w w':World}{q c r K:Nat}{L:List TokV}{st:St}(h:PAt w q c r K L st)(hb:Below w.heap.size w w'):PAt w' q c r K L st:=
 h.keeps (S:=fun _=>False) (Zx.of_below hb) id id id
structure Wb(w w':World)(q c r K:Nat)(L:List TokV)(st:St):Prop where
 at_:PAt w' q c r K L st
 keeps:Zx (fun k=>k=q∨k=c) w w'
def Xt(w:World)(q c r K:Nat)(L:List TokV)(st:St)(val:Value)(e:Ending)(w':World):Prop:=e=.returned val∧Wb w w' q c r K L st
theorem Wb.start{w:World}{q c r K:Nat}{L:List TokV}{st:St}(h:PAt w q c r K L st):Wb w w q c r K L st:=⟨h,Zx.refl _ _⟩
theorem Wb.next{w x y:World}{q c r K:Nat}{L:List TokV}{st:St}(m:Wb w x q c r K L st)(hb:Below x.heap.size x y):Wb w y q c r K L st:=
 ⟨m.at_.below hb,m.keeps.trans (Zx.of_below hb)⟩
theorem Wb.then{w x y:World}{q c r K:Nat}{L:List TokV}{st st':St}(m:Wb w x q c r K L st)(h:Wb x y q c r K L st'):Wb w y q c r K L st':=
 ⟨h.at_,m.keeps.trans h.keeps⟩
theorem Wb.on{w x y:World}{q c r K:Nat}{L:List TokV}{st:St}(m:Wb w x q c r K L st){G:Nat}(hk:Zx (fun k=>k=G) x y)(hG:w.heap.size≤G)(hq:q<w.heap.size)(hc:c<w.heap.size)(hr:r<w.heap.size):Wb w y q c r K L st:=by
 refine⟨m.at_.keeps hk (by omega) (by omega) (by omega),?_⟩;have h1:Zx (fun k=>(k=q∨k=c)∨k=G) w x:=m.keeps.mono fun k h=>.inl h
 have h2:Zx (fun k=>(k=q∨k=c)∨k=G) x y:=hk.mono fun k h=>.inr h
 exact(h1.trans h2).inner fun k hk h=>by omega
def Zlb(L:List TokV):St→Int×Nat×Nat
 |.ok a _=>wrF (Zv L a)
 |.bad _=>Zbm
def wantV(L:List TokV)(t:ByteArray):St→Int×Nat×Nat
 |.ok a _=>wantF L a t
 |.bad _=>Zbm
def downV(L:List TokV):St→Int×Nat×Nat
 |.ok a d=>Uu L a d
 |.bad _=>Zbm
def Zkq:St→St
 |.ok a d=>.ok a (Zby d)
 |.bad F=>.bad F
theorem PAt.step{w x:World}{q c r K:Nat}{L:List TokV}{a d b e:Nat}(h:PAt w q c r K L (.ok a d))(m:Zae w x c r K L b e):Wb w x q c r K L (.ok b e):=by
 obtain⟨h1,h2,h3⟩:=h.cur a d rfl;refine⟨⟨m.keeps.whole h.whole h1,fun a' d' e'=>?_,fun F e'=>(by cases e'),Nat.lt_of_lt_of_le h.cin m.keeps.size,Nat.lt_of_lt_of_le h.rin m.keeps.size⟩,m.keeps.mono fun k hk=>.inr hk⟩;cases e'
 exact⟨h1,h2,m.at_⟩
theorem xPeek(w:World)(q c r K:Nat)(L:List TokV)(st:St)(h:PAt w q c r K L st) :
  Calls Tryz.prog 133 #[Uj c st] w fun e w'=>e=.returned (Vu (st.tok L))∧Below w.heap.size w w':=by
 cases st with
 |ok a d=>exact Zml w c _ _ _ _ _ _ (h.cur a d rfl).2.2.look
 |bad F=>exact nPeek w
theorem xIs(w:World)(q c r K:Nat)(L:List TokV)(st:St)(t:ByteArray)(h:PAt w q c r K L st) :
  Calls Tryz.prog 174 #[Uj c st,.string t] w fun e w'=>e=.returned (.bool (isS L t st))∧Below w.heap.size w w':=by
 cases st with
 |ok a d=>exact cIs w c _ _ _ _ _ _ t (h.cur a d rfl).2.2.look
 |bad F=>exact nIs w t
theorem xWrong(w:World)(q c r K:Nat)(L:List TokV)(st:St)(h:PAt w q c r K L st) :
  Calls Tryz.prog 135 #[Uj c st] w fun e w'=>e=.returned (Zq (Zlb L st))∧Below w.heap.size w w':=by
 cases st with
 |ok a d=>exact cWrong w c _ _ _ _ _ _ (h.cur a d rfl).2.2.look
 |bad F=>exact nWrong w
theorem Zbc(w:World)(q c r K:Nat)(L:List TokV)(st:St)(t:ByteArray)(h:PAt w q c r K L st) :
  Calls Tryz.prog 136 #[Uj c st,.string t] w (Xt w q c r K L (Xy L t st) (.bool (isS L t st))):=by
 cases st with
 |ok a d=>exact(cTake w c r K L a d t (h.cur a d rfl).2.2).mono fun e w' p=>⟨p.1,h.step p.2⟩
 |bad F=>exact(nTake w t).mono fun e w' p=>⟨p.1,(Wb.start h).next p.2⟩
theorem xWant(w:World)(q c r K:Nat)(L:List TokV)(st:St)(t:ByteArray)(h:PAt w q c r K L st) :
  Calls Tryz.prog 210 #[Uj c st,.string t] w (Xt w q c r K L (Xy L t st) (Zq (wantV L t st))):=by
 cases st with
 |ok a d=>exact(cWant w c r K L a d t (h.cur a d rfl).2.2).mono fun e w' p=>⟨p.1,h.step p.2⟩
 |bad F=>exact(nWant w t).mono fun e w' p=>⟨p.1,(Wb.start h).next p.2⟩
theorem xDown(w:World)(q c r K:Nat)(L:List TokV)(st:St)(h:PAt w q c r K L st) :
  Calls Tryz.prog 278 #[Uj c st] w (Xt w q c r K L (Zkq st) (Zq (downV L st))):=by
 cases st with
 |ok a d=>exact(cDown w c r K L a d (h.cur a d rfl).2.2).mono fun e w' p=>⟨p.1,h.step p.2⟩
 |bad F=>exact(nDown w).mono fun e w' p=>⟨p.1,(Wb.start h).next p.2⟩
theorem xUp(w:World)(q c r K:Nat)(L:List TokV)(st:St)(h:PAt w q c r K L st) :
  Calls Tryz.prog 279 #[Uj c st] w (Xt w q c r K L (upS st) (.tuple #[])):=by
 cases st with
 |ok a d=>exact(cUp w c r K L a d (h.cur a d rfl).2.2).mono fun e w' p=>⟨p.1,h.step p.2⟩
 |bad F=>exact(nUp w).mono fun e w' p=>⟨p.1,by obtain⟨_,rfl⟩:=p;exact Wb.start h⟩
theorem PAt.cell{w:World}{q c r K:Nat}{L:List TokV}{st:St}(h:PAt w q c r K L st):w.cell? ⟨q,0,none⟩=some (Uj c st):=h.whole.read 0
theorem xNote(w:World)(q c r K:Nat)(L:List TokV)(st:St)(F:Int×Nat×Nat)(h:PAt w q c r K L st) :
  Calls Tryz.prog 134 #[.pointer (some ⟨q,0,none⟩),Zq F] w (Xt w q c r K L (Uh F st) (.tuple #[])):=by
 obtain⟨f0,f1,f2⟩:=F;have nb:=Zh w (.cells #[.int .i64 f0,.int .i64 (f1:Int),.int .i64 (f2:Int)] 29);have h1:=h.below nb;have hc:=h1.cell;have HM:=Hh ((Wb.start h).next nb);have H:=Hh h;have H1:=Hh h1;clear h h1 nb;unfold Zq;cases st with
 |bad G=>
  have hc':(w.alloc (.cells #[.int .i64 f0,.int .i64 (f1:Int),.int .i64 (f2:Int)] 29)).cell? ⟨q,0,none⟩=some (.pointer none):=hc;clear hc;go_enter Tryz.func134,Tryz.ntmps134;go_wp2
  go_end0
  exact⟨rfl,HM.out⟩
 |ok a d=>
  have hc':(w.alloc (.cells #[.int .i64 f0,.int .i64 (f1:Int),.int .i64 (f2:Int)] 29)).cell? ⟨q,0,none⟩=some (.pointer (some ⟨c,0,none⟩)):=hc;clear hc;by_cases hz:f0=0
  ·subst hz
   have hn:Uh (0,f1,f2) (.ok a d)=.ok a d:=by simp[Uh]
   rw[hn];clear hn;go_enter Tryz.func134,Tryz.ntmps134;go_wp2
   go_end0
   exact⟨rfl,HM.out⟩
  ·have hn:Uh (f0,f1,f2) (.ok a d)=.bad (f0,f1,f2):=if_neg hz
   rw[hn];have q1:(f0 != 0)=true:=by rw[bne_iff_ne];exact hz
   have z0:=H1.out.whole.thawed 0;have z1:=H1.out.whole.thawed 1;have z2:=H1.out.whole.thawed 2;have z3:=H1.out.whole.thawed 3;have y1:=H1.out.whole.read 1;have y2:=H1.out.whole.read 2;have y3:=H1.out.whole.read 3;have HZ:=Hh hz;clear hn hz;go_enter Tryz.func134,Tryz.ntmps134;go_wp2
   go_end0
   refine⟨rfl,⟨⟨?_,fun _ _ e=>(by cases e),fun F e=>(by cases e;exact HZ.out),?_,?_⟩,?_⟩⟩
   ·exact(((H1.out.whole.write 1 (.int .i64 f0)).write 2 (.int .i64 (f1:Int))).write 3 (.int .i64 (f2:Int))).write 0 (.pointer none)
   ·have:=H1.out.cin;simpa[World.setCell]using this
   ·have:=H1.out.rin;simpa[World.setCell]using this
   ·exact(((HM.out.keeps.setCell (p:=⟨q,1,none⟩) (.inl rfl) _).setCell (p:=⟨q,2,none⟩) (.inl rfl) _).setCell (p:=⟨q,3,none⟩) (.inl rfl) _).setCell (p:=⟨q,0,none⟩) (.inl rfl) _
theorem want_note(L:List TokV)(t:ByteArray)(st:St):Uh (wantV L t st) (Xy L t st)=Yw L t st:=by
 cases st with
 |ok a d=>
  unfold Yw;show Uh (wantF L a t) (.ok (Zbq L a t) d)=if isT (Zv L a) t=true then .ok (Zbq L a t) d else .bad (wrF (Zv L a))
  unfold wantF Zbq;by_cases h:isT (Zv L a) t=true
  ·rw[if_pos h,if_pos h,if_pos h];rfl
  ·rw[if_neg h,if_neg h,if_neg h];exact if_neg (Zfm _)
 |bad F=>rfl
theorem wrong_note(L:List TokV)(st:St):Uh (Zlb L st) st=Zhi L st:=by
 cases st with
 |ok a d=>exact if_neg (Zfm _)
 |bad F=>rfl
theorem xwant(w:World)(q c r K:Nat)(L:List TokV)(st:St)(t:ByteArray)(h:PAt w q c r K L st) :
  Calls Tryz.prog 178 #[.pointer (some ⟨q,0,none⟩),.string t] w (Xt w q c r K L (Yw L t st) (.tuple #[])):=by
 have hc:=h.cell;have H:=Hh h;rw[←want_note];generalize hv:wantV L t st=v;have hw:∀ w,PAt w q c r K L st→Calls Tryz.prog 210 #[Uj c st,.string t] w (Xt w q c r K L (Xy L t st) (Zq v)):=fun w h=>by rw[←hv];exact xWant w q c r K L st t h
 clear h hv;go_enter Tryz.func178,Tryz.ntmps178;go_wp2_with(first
 |(go_at_call 210;refine(hw _ H.out).mono ?_;rintro e w1 ⟨rfl,m1⟩;have M1:=Hh m1;clear m1)
 |(go_at_call 134;refine(xNote _ q c r K L _ v M1.out.at_).mono ?_;rintro e w2 ⟨rfl,m2⟩;have M2:=Hh (M1.out.then m2);clear m2))
 go_end0
 exact⟨rfl,M2.out⟩
end Go.Proofs.YtljdgdphldckhaaGreat
