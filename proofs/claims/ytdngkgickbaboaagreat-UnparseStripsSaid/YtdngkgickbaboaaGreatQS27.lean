/-
  No conditions but those that each theorem names.
-/
import Derived.Test.YtdngkgickbaboaaGreatQS26
set_option maxRecDepth 20000
set_option maxHeartbeats 12800000
namespace Go.Proofs.YtdngkgickbaboaaGreat
open Go.Great Go.ChangeShapes Go.WideShapes Go.ChangeAt Go.RowKit
set_option linter.unusedVariables false
set_option linter.unusedSimpArgs false
def dsL:List Ds→Ds
 |[]=>.nil
 |d::l=>d.app (dsL l)
def elm(sz m:Nat)(xs:List Value):List Value:=(xs.drop (m*sz)).take sz
theorem elm_zero{sz:Nat}{a b:List Value}(h:a.length=sz):elm sz 0 (a++b)=a:=by
 unfold elm;rw[Nat.zero_mul,List.drop_zero,←h,List.take_left'];rfl
theorem elm_succ{sz m:Nat}{a b:List Value}(h:a.length=sz):elm sz (m+1) (a++b)=elm sz m b:=by
 unfold elm;rw[Nat.succ_mul,List.drop_append,List.drop_eq_nil_of_le (by omega),List.nil_append,h,show m*sz+sz - sz=m*sz from by omega]
theorem Zlw{N:Nat→Prop}{w:World}{sz:Nat}:∀{L:List Ds}{xs:List Value},Zn N w (dsL L) xs→(∀ d ∈ L,d.len=sz)→xs.length=L.length*sz∧∀ m (h:m<L.length),Zn N w (L[m]'h) (elm sz m xs)
 |[],xs,h,_=>by cases h;exact⟨by simp,fun m h=>by cases h⟩
 |d::L,xs,h,hl=>by
  obtain⟨a,b,rfl,h1,h2⟩:=Zn.split (x:=d) h;have la:a.length=sz:=by rw[h1.len];exact hl d (by simp)
  obtain⟨h3,h4⟩:=Zlw h2 fun e he=>hl e (by simp[he])
  refine⟨by rw[List.length_append,la,h3,List.length_cons,Nat.succ_mul];omega,fun m hm=>?_⟩;cases m with
  |zero=>rw[elm_zero la];exact h1
  |succ m=>rw[elm_succ la];exact h4 m (by simpa using hm)
theorem Zjr{N:Nat→Prop}{w:World}{sz:Nat}:∀{L:List Ds}{xs:List Value},xs.length=L.length*sz→(∀ m (h:m<L.length),Zn N w (L[m]'h) (elm sz m xs))→Zn N w (dsL L) xs
 |[],xs,hl,_=>by
  have:xs=[]:=List.length_eq_zero_iff.1 (by rw[hl];simp);exact this
 |d::L,xs,hl,h=>by
  rw[List.length_cons,Nat.succ_mul]at hl;have e:xs=xs.take sz++xs.drop sz:=(List.take_append_drop sz xs).symm;have la:(xs.take sz).length=sz:=by rw[List.length_take];omega
  have h0:=h 0 (by simp);rw[e,elm_zero la]at h0;rw[e];refine Zn.app (x:=d) ?_ h0;refine Zjr (sz:=sz) (by rw[List.length_drop];omega) fun m hm=>?_
  have:=h (m+1) (by simpa using hm);rw[e,elm_succ la]at this;exact this
theorem rusDs_L:∀ l:List Ru,Ur l=dsL (l.map Ru.ds)
 |[]=>rfl
 |r::l=>by show r.ds.app (Ur l)=r.ds.app (dsL (l.map Ru.ds));rw[rusDs_L l]
theorem casDs_L:∀ l:List Ca,Zaa l=dsL (l.map Ca.ds)
 |[]=>rfl
 |r::l=>by show r.ds.app (Zaa l)=r.ds.app (dsL (l.map Ca.ds));rw[casDs_L l]
theorem plsDs_L:∀ l:List Pl,Jx l=dsL (l.map Pl.ds)
 |[]=>rfl
 |r::l=>by show r.ds.app (Jx l)=r.ds.app (dsL (l.map Pl.ds));rw[plsDs_L l]
def Acs.each:Acs→List Ds
 |.nil=>[]
 |.cons h t e r=>h.dsr t.len t.ds e.len e.ds::r.each
theorem Zis:∀ x:Acs,x.ds=dsL x.each
 |.nil=>rfl
 |.cons h t e r=>by show(h.dsr t.len t.ds e.len e.ds).app r.ds=(h.dsr t.len t.ds e.len e.ds).app (dsL r.each);rw[Zis r]
theorem Acs.each_len:∀ x:Acs,x.each.length=x.len
 |.nil=>rfl
 |.cons h t e r=>by show r.each.length+1=r.len+1;rw[Acs.each_len r]
theorem Acs.each_size:∀(x:Acs),∀ d ∈ x.each,d.len=53
 |.nil,d,h=>by cases h
 |.cons h t e r,d,hd=>by
  rcases List.mem_cons.1 hd with rfl | hd
  ·exact AH.dsr_len ..
  ·exact Acs.each_size r d hd
theorem Acs.bare_at:∀(x:Acs)(m:Nat)(u:AH×Acs×Acs),x.at? m=some u→x.bare.at? m=some (u.1.bare,u.2.1.bare,u.2.2.bare)
 |.nil,m,u,h=>by cases m<;>cases h
 |.cons h t e r,0,u,hu=>by
  have hu:some (h,t,e)=some u:=hu;injection hu with hu;subst hu;rfl
 |.cons h t e r,m+1,u,hu=>Acs.bare_at r m u hu
def ChgPost(y:World)(g:Nat)(t:TypeId)(pre post:List Value)(D:Nat→World→List Value→Prop)(e:Ending)(w':World):Prop:=
 e=.returned (.tuple #[])∧∃ ys,D y.heap.size w' ys∧Zf w' g t (pre++ys++post).toArray∧Zq (fun k=>k=g) y w'
def Chg(f:Nat)(ds:Ds)(D:Nat→World→List Value→Prop):Prop:=
 ∀(y:World)(B g o:Nat)(t:TypeId)(pre post ys:List Value),o=pre.length→B≤g→Zf y g t (pre++ys++post).toArray→Zn (fun k=>k<B) y ds ys →
  Calls Tryz.prog f #[.pointer (some ⟨g,o,none⟩)] y (ChgPost y g t pre post D)
structure Stb(D:Nat→World→List Value→Prop)(sz:Nat):Prop where
 mono:∀{b c:Nat}{w:World}{ys:List Value},D b w ys→c≤b→D c w ys
 keep:∀{b g:Nat}{w w':World}{ys:List Value},D b w ys→Zq (fun k=>k=g) w w'→g<b→D b w' ys
 len:∀{b:Nat}{w:World}{ys:List Value},D b w ys→ys.length=sz
def Vb(ds:Ds)(b:Nat)(w:World)(ys:List Value):Prop:=Zn (fun k=>b≤k) w ds ys
theorem Vb.stb(ds:Ds){sz:Nat}(h:ds.len=sz):Stb (Vb ds) sz:=
 ⟨fun d hc=>Zn.mono d fun k _ hk=>Nat.le_trans hc hk,fun d hk hg=>Zn.keeps hk (fun k _ hk=>⟨fun e=>by omega,hk⟩) d,fun d=>by rw[Zn.len d,h]⟩
theorem own_set{w:World}{base sz m n c g:Nat}{T:TypeId}{xs:List Value}(h:w.ownsRow base T sz (.slice (some ⟨g,0,none⟩) n c) n xs)(hm:m<n) :
  ∃ pre post,Zf w g T (pre++elm sz m xs++post).toArray∧pre.length=m*sz ∧
   ∀(ys:List Value)(w':World),ys.length=sz→Zf w' g T (pre++ys++post).toArray→∃ zs,w'.ownsRow base T sz (.slice (some ⟨g,0,none⟩) n c) n zs∧elm sz m zs=ys∧∀ j,j<n→j≠m→elm sz j zs=elm sz j xs:=by
 obtain⟨hl,h⟩:=h;rcases h with⟨h,_⟩ | ⟨g',cap,cur,h,hb,hw,h1,h2,h3,h4⟩
 ·cases h
 ·injection h with h5 h6 h7
  injection h5 with h5;injection h5 with h5;subst h5 h7;have hms:(m+1)*sz≤n*sz:=Nat.mul_le_mul_right sz hm;have hns:n*sz≤c*sz:=Nat.mul_le_mul_right sz h1;rw[Nat.succ_mul]at hms;have hcl:cur.toList.length=c*sz:=by rw[Array.length_toList,h3]
  have e:elm sz m xs=(cur.toList.drop (m*sz)).take sz:=by
   unfold elm;rw[←h4,List.drop_take,List.take_take,Nat.min_eq_left (by omega)]
  have hpl:(cur.toList.take (m*sz)).length=m*sz:=by rw[List.length_take];omega
  refine⟨cur.toList.take (m*sz),cur.toList.drop (m*sz+sz),?_,hpl,?_⟩
  ·rw[e,List.append_assoc,←List.drop_drop,List.take_append_drop,List.take_append_drop]
   exact hw
  ·intro ys w' hy hW
   refine⟨(cur.toList.take (m*sz)++ys++cur.toList.drop (m*sz+sz)).take (n*sz),⟨?_,.inr ⟨g,c,_,rfl,hb,hW,h1,h2,?_,?_⟩⟩,?_,?_⟩
   ·rw[List.length_take,List.length_append,List.length_append,List.length_drop,hpl];omega
   ·simp only[List.size_toArray,List.length_append,List.length_drop,hpl];omega
   ·rfl
   ·unfold elm
    rw[List.drop_take,List.take_take,Nat.min_eq_left (by omega),List.append_assoc,List.drop_append_of_le_length (by omega),List.drop_eq_nil_of_le (by omega),List.nil_append,List.take_append_of_le_length (by omega),List.take_of_length_le (by omega)]
   ·intro j hj hne
    unfold elm;rw[←h4,List.drop_take,List.drop_take,List.take_take,List.take_take];have hjs:(j+1)*sz≤n*sz:=Nat.mul_le_mul_right sz hj;rw[Nat.succ_mul]at hjs;rw[Nat.min_eq_left (by omega)];rcases Nat.lt_or_gt_of_ne hne with hlt | hgt
    ·have hjm:(j+1)*sz≤m*sz:=Nat.mul_le_mul_right sz hlt
     rw[Nat.succ_mul]at hjm;rw[List.append_assoc,List.drop_append_of_le_length (by omega),List.take_append_of_le_length (by rw[List.length_drop,hpl];omega),List.drop_take,List.take_take,Nat.min_eq_left (by omega)]
    ·have hjm:(m+1)*sz≤j*sz:=Nat.mul_le_mul_right sz hgt
     rw[Nat.succ_mul]at hjm;rw[List.drop_append,List.drop_eq_nil_of_le (by rw[List.length_append,hpl,hy];omega),List.nil_append,List.length_append,hpl,hy,List.drop_drop,show m*sz+sz+(j*sz - (m*sz+sz))=j*sz from by omega]
end Go.Proofs.YtdngkgickbaboaaGreat
