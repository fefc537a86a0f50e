/-
  No conditions but those that each theorem names.
-/
import Derived.Test.YtdngkgickbaboaaGreatQS28
set_option maxRecDepth 20000
set_option maxHeartbeats 12800000
namespace Go.Proofs.YtdngkgickbaboaaGreat
open Go.Great Go.ChangeShapes Go.WideShapes Go.ChangeAt Go.RowKit
set_option linter.unusedVariables false
set_option linter.unusedSimpArgs false
structure InP(y:World)(g:Nat)(t:TypeId)(pre post cs:List Value)(x:World):Prop where
 whole:Zf x g t (pre++cs++post).toArray
 keep:Zq (fun k=>k=g) y x
section
variable {y x x':World} {g:Nat} {t:TypeId} {pre post:List Value}
theorem InP.lt{cs:List Value}(h:InP y g t pre post cs x)(hy:g<y.heap.size):g<x.heap.size:=Nat.lt_of_lt_of_le hy h.keep.size
theorem InP.below{cs:List Value}(h:InP y g t pre post cs x)(b:Below x.heap.size x x'):InP y g t pre post cs x':=
 ⟨Zf.below h.whole b (Zf.inside h.whole),h.keep.trans (Zq.of_below b)⟩
theorem InP.sub{a b c:List Value}(h:InP y g t pre post (a++b++c) x):Zf x g t ((pre++a)++b++(c++post)).toArray:=by
 have:=h.whole;rwa [show pre++(a++b++c)++post=(pre++a)++b++(c++post)from by simp]at this
theorem InP.of{a b c:List Value}(k:Zq (fun k=>k=g) y x)(h:Zf x g t ((pre++a)++b++(c++post)).toArray):InP y g t pre post (a++b++c) x:=by
 refine⟨?_,k⟩;rwa [show pre++(a++b++c)++post=(pre++a)++b++(c++post)from by simp]
theorem InP.cell{cs:List Value}(h:InP y g t pre post cs x){o:Nat}(ho:o=pre.length)(j:Nat){v:Value}(hv:cs[j]?=some v):x.cell? ⟨g,o+j,none⟩=some v:=by
 subst ho;exact(Zf.range h.whole) j v hv
theorem InP.cast{a b:List Value}(h:InP y g t pre post a x)(e:a=b):InP y g t pre post b x:=e ▸ h
theorem InP.step{a b c:List Value}(h:InP y g t pre post (a++b++c) x){f:Nat}{ds:Ds}{D:Nat→World→List Value→Prop}(hf:Chg f ds D){B o:Nat}(ho:o=pre.length+a.length)(hB:B≤g)(hd:Zn (fun k=>k<B) y ds b) :
  Calls Tryz.prog f #[.pointer (some ⟨g,o,none⟩)] x fun e w'=>e=.returned (.tuple #[])∧∃ b',D x.heap.size w' b'∧InP y g t pre post (a++b'++c) w'∧Zq (fun k=>k=g) x w':=by
 have hd':Zn (fun k=>k<B) x ds b:=hd.keeps h.keep fun k _ hk=>⟨fun e=>by omega,hk⟩
 refine(hf x B g o t (pre++a) (c++post) b (by rw[List.length_append];exact ho) hB h.sub hd').mono ?_;rintro e w' ⟨rfl,b',hD,hW,hk⟩;exact⟨rfl,b',hD,InP.of (h.keep.trans hk) hW,hk⟩
theorem InP.put{a c:List Value}{u v:Value}(h:InP y g t pre post (a++[u]++c) x)(p:Put x x' g t ((pre++a)++[v]++(c++post))):InP y g t pre post (a++[v]++c) x':=
 InP.of (h.keep.trans p.keeps) p.whole
theorem Vb.keep{ds:Ds}{b:Nat}{ys:List Value}(h:Vb ds b x ys)(k:Zq (fun k=>k=g) x x')(hg:g<b):Vb ds b x' ys:=Zn.keeps k (fun k _ hk=>⟨fun e=>by omega,hk⟩) h
theorem Vb.le{ds:Ds}{b c:Nat}{ys:List Value}(h:Vb ds b x ys)(hc:c≤b):Vb ds c x ys:=Zn.mono h fun k _ hk=>Nat.le_trans hc hk
end
theorem Wz{P:Program}{ops:Array Oper}{rest:List Oper}{o:Oper}{a:Act}{w y:World}{Q:Exit→Act→World→Prop}{g:Nat}{t:TypeId}{pre post l r:List Value}{u:Value}(h:InP y g t pre post (l++[u]++r) w)(T:TypeId)(x z:Operand)(v:Value)(n k:Nat)(hn:n=pre.length)(hk:k=l.length)
  (hi:(P.info? T).map (·.size)=some 1)(h1:v.oneCell'=true)(hgd:o.guard=none)(ho:o.op=.store T x z)(hd:o.dst=none)
  (hx:a.eval x=.pointer (some ⟨g,n+k,none⟩))(hz:a.eval z=v)
  (hK:∀ w',InP y g t pre post (l++[v]++r) w'→Zq (fun k=>k=g) w w'→wpList P ops Q rest a w'):wpList P ops Q (o::rest) a w:=
 Zj T x z t g (n+k) (pre++l) u v (r++post) h.sub (by rw[List.length_append,hn,hk]) hi h1 hgd ho hd hx hz fun w' p=>hK w' (h.put p) p.keeps
theorem Zjc{P:Program}{ops:Array Oper}{rest:List Oper}{T:TypeId}{t:TypeId}{ps:String}{af:Array Edge}{gd:Option (Nat×Bool)}{a:Act}{w:World}{Q:Exit→Act→World→Prop}{c:Value}(x:Nat)
 (h:wpList P ops Q (⟨none,.store T (.tmp x) (.const c),t,ps,af,gd⟩::rest) a w):wpList P ops Q (⟨none,.store T (.tmp x) (.const c),t,ps,af,gd⟩::rest) a w:=h
theorem size_flsZ:(Tryz.prog.info? 47).map (·.size)=some 1:=by kernel_rfl
theorem size_exsZ:(Tryz.prog.info? 52).map (·.size)=some 1:=by kernel_rfl
theorem Zle:(Tryz.prog.info? 44).map (·.size)=some 1:=by kernel_rfl
theorem size_rusZ:(Tryz.prog.info? 33).map (·.size)=some 1:=by kernel_rfl
theorem fls_any{N M:Nat→Prop}{w w':World}:∀{l:List Fl}{xs:List Value},Zn N w (Zdy l) xs→Zn M w' (Zdy l) xs
 |[],xs,h=>h
 |f::l,xs,⟨_,e1,_,e2,_,e3,_,e4,h⟩=>⟨_,e1,_,e2,_,e3,_,e4,fls_any h⟩
theorem fls_size{N:Nat→Prop}{w:World}:∀{l:List Fl}{xs:List Value},Zn N w (Zdy l) xs→xs.length=l.length*4
 |[],xs,h=>by cases h;rfl
 |f::l,xs,⟨_,e1,_,e2,_,e3,_,e4,h⟩=>by subst e1 e2 e3 e4;simp only[List.length_cons];rw[fls_size h];omega
theorem Zde{w:World}{base:Nat}{e:TypeId}{size:Nat}{v:Value}{n:Nat}{xs:List Value}(h:w.ownsRow base e size v n xs):v.oneCell'=true:=by
 obtain⟨A,c,rfl,_⟩:=Xd h;rfl
theorem detSel(s:Se)(hs:SmSe s):Chg 123 s.ds (Vb s.ds):=by
 intro y B g o t pre post ys ho hB hW hd;obtain⟨k,sd,wh,ln,fs,pk⟩:=s;obtain⟨_,rfl,_,rfl,_,rfl,_,rfl,A,c,xs,_,rfl,hn,hw,hx,_,rfl,rfl⟩:=hd;have hg:g<y.heap.size:=hW.inside;have T0:Hid (InP y g t pre post [.int .i64 k,.int .i64 sd,.int .i64 wh,.int .i64 ln,.slice A fs.length c,.int .i64 pk] y):=Hh ⟨hW,Zq.refl _ _⟩;have c0:y.cell? ⟨g,o+4,none⟩=some (.slice A fs.length c):=T0.out.cell ho 4 rfl;have HX:=Hh hx;have hcl:=Hh (clone_Fl y _ A fs.length c xs (fls_size hx) hs hw hx.one);have HO:=Hh ho;clear hW hw hx ho;go_enter Tryz.func123,Tryz.ntmps123;go_wp2_with(first
 |(go_at_call 154;refine(hcl.out).mono ?_;rintro e w1 ⟨v,rfl,ow,b1⟩;have T1:=Hh (T0.out.below b1);have OW:=Hh ow;clear ow)
 |((with_reducible refine Zg 9 7 ?_);refine Wz (l:=[.int .i64 k,.int .i64 sd,.int .i64 wh,.int .i64 ln]) (r:=[.int .i64 pk]) T1.out 47 _ _ v o 4 HO.out rfl size_flsZ (Zde OW.out) rfl rfl rfl rfl rfl ?_;intro w2 t2 k2;have T2:=Hh t2;clear t2))
 go_end0
 refine⟨rfl,_,?_,T2.out.whole,T2.out.keep⟩;have h1:=Zn.rowOf (N:=fun k=>y.heap.size≤k) OW.out (fun k h=>h) (fls_any HX.out);obtain⟨A',c',zs,_,e,h2,h3,h4,rfl⟩:=Vb.keep (g:=g) (x:=w1) (x':=w2) (b:=y.heap.size) h1 k2 hg;injection e with e _;subst e;exact⟨_,rfl,_,rfl,_,rfl,_,rfl,A',c',zs,_,rfl,h2,h3,h4,_,rfl,rfl⟩
end Go.Proofs.YtdngkgickbaboaaGreat
