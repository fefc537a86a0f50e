/-
  No conditions but those that each theorem names.
-/
import Derived.RegionTactic
import Derived.Test.YtljdgdphldckhaaGreatQV19
set_option maxRecDepth 20000
set_option maxHeartbeats 12800000
namespace Go.Proofs.YtljdgdphldckhaaGreat
open Go.ChangeShapes Go.WideShapes Go.ChangeAt Go.RowKit
set_option linter.unusedVariables false
set_option linter.unusedSimpArgs false
theorem plain_head(nk:Int)(L:List TokV)(n:Nat)(a b c:Int)(k:Nat)(st:St):(Yq nk L n (AH.zero a b c) k st).1 = { (Yq nk L n (AH.zero 0 0 0) k st).1 with kind:=a,line:=b,col:=c }∧(Yq nk L n (AH.zero a b c) k st).2=(Yq nk L n (AH.zero 0 0 0) k st).2:=by
 unfold Yq;by_cases h1:k=1∨k=2∨k=12
 ·rw[if_pos h1,if_pos h1];exact⟨rfl,rfl⟩
 rw[if_neg h1,if_neg h1];by_cases h2:k=3∨k=5∨k=14
 ·rw[if_pos h2,if_pos h2];exact⟨rfl,rfl⟩
 rw[if_neg h2,if_neg h2];by_cases h3:k=4
 ·rw[if_pos h3,if_pos h3];exact⟨rfl,rfl⟩
 rw[if_neg h3,if_neg h3];by_cases h4:k=6
 ·rw[if_pos h4,if_pos h4];exact⟨rfl,rfl⟩
 rw[if_neg h4,if_neg h4];by_cases h5:k=7∨k=9
 ·rw[if_pos h5,if_pos h5];exact⟨rfl,rfl⟩
 rw[if_neg h5,if_neg h5];by_cases h6:k=8
 ·rw[if_pos h6,if_pos h6];exact⟨rfl,rfl⟩
 rw[if_neg h6,if_neg h6];by_cases h7:k=13∨k=15
 ·rw[if_pos h7,if_pos h7];exact⟨rfl,rfl⟩
 rw[if_neg h7,if_neg h7];exact⟨rfl,rfl⟩
theorem act_head(nk:Int)(L:List TokV)(n:Nat)(a b c:Int)(k:Nat)(st:St) :
  (Ws nk L n (AH.zero a b c) k st).h = { (Ws nk L n (AH.zero 0 0 0) k st).h with kind:=a,line:=b,col:=c }∧(Ws nk L n (AH.zero a b c) k st).thn=(Ws nk L n (AH.zero 0 0 0) k st).thn ∧
  (Ws nk L n (AH.zero a b c) k st).els=(Ws nk L n (AH.zero 0 0 0) k st).els∧(Ws nk L n (AH.zero a b c) k st).st=(Ws nk L n (AH.zero 0 0 0) k st).st:=by
 cases n with
 |zero=>exact⟨rfl,rfl,rfl,rfl⟩
 |succ n=>
  have e2:(Xb nk L n (AH.zero a b c) st).2=(Xb nk L n (AH.zero 0 0 0) st).2:=rfl;have e1:(Xb nk L n (AH.zero a b c) st).1 = { (Xb nk L n (AH.zero 0 0 0) st).1 with kind:=a,line:=b,col:=c }:=rfl;obtain⟨p1,p2⟩:=plain_head nk L n a b c k st;rw[Ws,Ws,e2,e1,p1,p2];by_cases h1:k=10
  ·rw[if_pos h1,if_pos h1]
   by_cases h2:isS L Uu (Yf nk L n (Xb nk L n (AH.zero 0 0 0) st).2).2=true
   ·rw[if_pos h2,if_pos h2];exact⟨rfl,rfl,rfl,rfl⟩
   ·rw[if_neg h2,if_neg h2];exact⟨rfl,rfl,rfl,rfl⟩
  ·rw[if_neg h1,if_neg h1]
   by_cases h2:k=11
   ·rw[if_pos h2,if_pos h2];exact⟨rfl,rfl,rfl,rfl⟩
   ·rw[if_neg h2,if_neg h2];exact⟨rfl,rfl,rfl,rfl⟩
theorem act_ds(nk:Int)(L:List TokV)(n:Nat)(a b c:Int)(k:Nat)(st:St):∃ k0 l0 c0 tl,(Ws nk L n (AH.zero 0 0 0) k st).ds=.int k0 (.int l0 (.int c0 tl))∧(Ws nk L n (AH.zero a b c) k st).ds=.int a (.int b (.int c tl)):=by
 obtain⟨h1,h2,h3,h4⟩:=act_head nk L n a b c k st;refine⟨_,_,_,_,rfl,?_⟩;unfold AO.ds;rw[h1,h2,h3];rfl
theorem Acs.ds_app(y:Acs):∀ x:Acs,(x.app y).ds=x.ds.app y.ds
 |.nil=>rfl
 |.cons h t e r=>by
  show(h.dsr t.len t.ds e.len e.ds).app (r.app y).ds=((h.dsr t.len t.ds e.len e.ds).app r.ds).app y.ds;rw[Acs.ds_app y r,Ds.app_assoc]
structure RowD(w:World)(q c r K:Nat)(L:List TokV)(e:TypeId)(sz:Nat)(st:St)(n:Nat)(ds:Ds)(xs:List Value)(v:Value)(wr:World):Prop where
 row:Zeo w q c r K L e sz st n xs v wr
 deep:Deep (fun k=>w.heap.size≤k∧v.ownBlock≠some k) wr ds xs
def Wq(q c:Nat)(wr x:World):Prop:=Keeps (fun k=>(k=q∨k=c)∨wr.heap.size≤k) wr x
theorem Wq.start(q c:Nat)(w:World):Wq q c w w:=Keeps.refl _ _
theorem Wq.move{q c r K:Nat}{L:List TokV}{st:St}{wr x y:World}(h:Wq q c wr x)(m:Yc x y q c r K L st):Wq q c wr y:=Keeps.trans h (m.keeps.mono fun k hk=>.inl hk)
theorem Wq.next{q c:Nat}{wr x y:World}(h:Wq q c wr x)(hb:Below x.heap.size x y):Wq q c wr y:=Keeps.trans h (Keeps.of_below hb)
theorem Wq.put{q c:Nat}{wr x y:World}(h:Wq q c wr x){g:Nat}{t:TypeId}{vs:List Value}(p:Put x y g t vs)(hg:wr.heap.size≤g):Wq q c wr y:=Keeps.trans h (p.keeps.mono fun k hk=>.inr (hk ▸ hg))
theorem Wq.drew{q c:Nat}{wr x:World}(h:Wq q c wr x):Wq q c wr x.drew:=Keeps.drew h
theorem RowD.round{w x y:World}{q c r K n sz:Nat}{L:List TokV}{e:TypeId}{st st':St}{ds:Ds}{xs:List Value}{v:Value}(h:RowD w q c r K L e sz st n ds xs v x)(f:Wq q c x y)(m:Yc w y q c r K L st'):RowD w q c r K L e sz st' n ds xs v y:=
 ⟨⟨m,f.owns h.row.row (fun k hk c=>by have:=h.row.row.lt k hk;have:=h.row.qin;have:=h.row.cin;omega),h.row.qin,h.row.cin,h.row.rin⟩,
   h.deep.keeps f fun k hk hn=>⟨by have:=h.row.qin;have:=h.row.cin;omega,hn⟩⟩
theorem RowD.push{w x y:World}{q c r K n sz:Nat}{L:List TokV}{e:TypeId}{st:St}{ds es:Ds}{xs ys:List Value}{v v':Value}(h:RowD w q c r K L e sz st n ds xs v x)(ho:y.ownsRow w.heap.size e sz v' (n+1) (xs++ys))(hg:x.grownBy y v.ownBlock)(hat:v'.ownBlock=v.ownBlock∨v'.ownBlock=some x.heap.size)
  (d:Deep (fun k=>w.heap.size≤k∧v.ownBlock≠some k) x es ys):RowD w q c r K L e sz st (n+1) (ds.app es) (xs++ys) v' y:=by
 have hk:Keeps (fun k=>v.ownBlock=some k) x y:=Keeps.grown (Keeps.refl _ _) hg fun k hk=>hk
 have hs:∀ k,k<x.heap.size→(w.heap.size≤k∧v.ownBlock≠some k)→¬(v.ownBlock=some k)∧(w.heap.size≤k∧v'.ownBlock≠some k):=fun k hk hn=>by
  refine⟨hn.2,hn.1,fun c=>?_⟩;rcases hat with e1 | e1
  ·rw[e1]at c;exact hn.2 c
  ·rw[e1]at c;injection c with c;omega
 exact⟨h.row.push ho hg,Deep.app (d.keeps hk hs) (h.deep.keeps hk hs)⟩
theorem Zb.set3L{w:World}{g:Nat}{t:TypeId}{a b c:Value}{l:List Value}(h:Zb w g t (a::b::c::l).toArray)(x y z:Value) :
  Put w (((w.setCell ⟨g,0,none⟩ x).setCell ⟨g,1,none⟩ y).setCell ⟨g,2,none⟩ z) g t (x::y::z::l):=by
 have h1:=Zb.setCells (g:=g) (t:=t) l [x,y,z] [a,b,c] [] w rfl h;exact⟨h1,Keeps.setCells (S:=fun k=>k=g) (g:=g) rfl [x,y,z] 0 (Keeps.refl _ w)⟩
theorem und_acts:Tryz.prog.underlying 41=some (.slice 57):=by kernel_rfl
def zact:Value:=.agg #[.int .i64 0,.int .i64 0,.int .i64 0,.int .i64 0,.int .i64 0,.int .i64 0,.int .i64 0,.slice none 0 0,.int .i64 0,.int .i64 0,.int .i64 0,.int .i64 0,.int .i64 0,.int .i64 0,.int .i64 0,.slice none 0 0,.int .i64 0,.int .i64 0,.int .i64 0,.int .i64 0,.slice none 0 0,.int .i64 0,.int .i64 0,.int .i64 0,.int .i64 0,.string ⟨#[]⟩,.int .i64 0,.int .i64 0,.int .i64 0,.int .i64 0,.int .i64 0,.int .i64 0,.int .i64 0,.slice none 0 0,.int .i64 0,.int .i64 0,.int .i64 0,.int .i64 0,.slice none 0 0,.int .i64 0,.int .i64 0,.int .i64 0,.int .i64 0,.int .i64 0,.int .i64 0,.slice none 0 0,.int .i64 0,.int .i64 0,.int .i64 0,.int .i64 0,.slice none 0 0,.slice none 0 0,.slice none 0 0]
theorem info_act:(Tryz.prog.info? 57).map (fun i=>(i.zero,i.size,i.bytes))=some (some zact,53,576):=by kernel_rfl
theorem acts_step(nk:Int)(L:List TokV)(m:Nat)(st:St)(h:¬ Zd L Xs st=0):Xc nk L (m+1) st =
  (.cons (Ws nk L m (AH.zero (Zd L Xs st) (st.tok L).line (st.tok L).col) (Zd L Xs st) (Zn L Xs st)).h
     (Ws nk L m (AH.zero (Zd L Xs st) (st.tok L).line (st.tok L).col) (Zd L Xs st) (Zn L Xs st)).thn
     (Ws nk L m (AH.zero (Zd L Xs st) (st.tok L).line (st.tok L).col) (Zd L Xs st) (Zn L Xs st)).els
     (Xc nk L m (Ws nk L m (AH.zero (Zd L Xs st) (st.tok L).line (st.tok L).col) (Zd L Xs st) (Zn L Xs st)).st).1,
    (Xc nk L m (Ws nk L m (AH.zero (Zd L Xs st) (st.tok L).line (st.tok L).col) (Zd L Xs st) (Zn L Xs st)).st).2):=by
 rw[Xc,if_neg h]
theorem acts_stop(nk:Int)(L:List TokV)(m:Nat)(st:St)(h:Zd L Xs st=0):Xc nk L (m+1) st=(.nil,st):=by rw[Xc,if_pos h]
theorem xacts(n:Nat)(ih:∀ m,m+1≤n→ActOK m):ActsOK n:=by
 intro w q c r K L st h hn hLn;have H0:=Hh (show RowD w q c r K L 57 53 st 0 .nil [] (.slice none 0 0) w from⟨⟨Yc.start h,World.ownsRow_nil _ _ _ _,h.whole.inside,h.cin,h.rin⟩,rfl⟩);have qin:=h.whole.inside;have cin:=h.cin;have HN:=Hh (And.intro hn hLn);clear hn h hLn;go_enter Tryz.func211,Tryz.ntmps211;go_wp2
 go_loopw [3] (fun v wr=>∃(m:Nat)(acc:Acs)(xs:List Value)(s:St),RowD w q c r K L 57 53 s acc.len acc.ds xs v wr∧8*Zk L s+8≤m∧m≤n∧acc.len+Zk L s≤Zk L st∧Xc 5 L n st=(acc.app (Xc 5 L m s).1,(Xc 5 L m s).2)) (fun _ wr=>remW q c wr)
 case atStart=>exact⟨n,.nil,[],st,H0.out,HN.out.1,Nat.le_refl _,by simp[Acs.len],rfl⟩
 case round=>
  obtain⟨m,acc,xs,s,hR,hm,hmn,hacc,heq⟩:=hrel;obtain⟨m,rfl⟩:∃ m',m=m'+1:=⟨m - 1,by omega⟩
  obtain⟨A,cp,rfl,_,_,_⟩:=own_form hR.row.row;have hcell:=hR.row.mv.at_.cell;have hrem:=hR.row.mv.at_.rem;have hpk:=xPeek wr q c r K L s hR.row.mv.at_;have hle:=Zhx L Xs s;have hz0:=hR.row.mv.keeps.size;have hfr:=Wi (L:=L) (ws:=Xs) (st:=s);have hfn:=Jn L (ws:=Xs) (st:=s);have hst:=acts_step 5 L m s;have hsp:=acts_stop 5 L m s;have hfi:∀ W G,G=W.heap.size→PAt W q c r K L s→Calls Tryz.prog 147 #[.pointer (some ⟨q,0,none⟩),.slice (some ⟨G,0,none⟩) 15 15] (W.alloc (.cells #[.string ⟨#[112,111,119,101,114]⟩,.string ⟨#[115,101,116]⟩,.string ⟨#[100,101,115,116,114,111,121]⟩,.string ⟨#[109,111,118,101]⟩,.string ⟨#[114,101,116,117,114,110]⟩,.string ⟨#[115,112,97,119,110]⟩,.string ⟨#[100,114,97,119]⟩,.string ⟨#[100,105,115,99,97,114,100]⟩,.string ⟨#[101,110,101,114,103,121]⟩,.string ⟨#[105,102]⟩,.string ⟨#[101,97,99,104]⟩,.string ⟨#[97,117,114,97]⟩,.string ⟨#[100,111,117,98,108,101]⟩,.string ⟨#[115,104,105,101,108,100]⟩,.string ⟨#[98,97,114]⟩] 9)) fun e w'=>e=.returned (.int .i64 (Zd L Xs s:Int))∧Yc W w' q c r K L (Zn L Xs s):=fun W G h2 h=>xfindB W q c r K G L s Xs 15 15 _ rfl h2 h rfl (by decide)
  generalize s.tok L=tv at *;unfold Vk at hpk;generalize Zd L Xs s=k at *;generalize Zn L Xs s=s1 at *;have HR:=Hh hR;have HQ:=Hh heq;have hle15:k≤15:=hle;clear hR heq hle;by_cases hk0:k=0
  · have HS:=Hh (And.intro (hsp hk0) (hfn hk0))
    subst hk0;rw[show((0:Nat):Int)=0 from rfl]at hfi;clear hst hsp hfn hfr hm hmn hacc hrem;go_wp2_with(first
 |(go_at_call 133;refine hpk.mono ?_;rintro e w1 ⟨rfl,b1⟩
   have nb:=Za w1 (.cells #[.int .i64 tv.k,.string tv.t,.int .i64 tv.n,.int .i64 (tv.line:Int),.int .i64 (tv.col:Int)] 85);have M1:=Hh ((HR.out.row.mv.next b1).next nb);have F1:=Hh (((Wq.start q c wr).next b1).next nb);clear b1 nb)
 |(go_at_call 147;refine(hfi _ _ ?_ M1.out.at_).mono ?_;simp;rintro e w2 ⟨rfl,m2⟩
   have M2:=Hh (M1.out.then m2)
   have F2:=Hh (F1.out.move m2);clear m2))
    go_ret;obtain⟨e1,e2⟩:=HS.out;have R:=HR.out.round F2.out M2.out;rw[e2]at R;rw[HQ.out,e1];dsimp only;rw[Acs.app_nil];exact⟨_,rfl,Deep.rowOf R.row.row (fun k hk=>hk) (R.deep.mono fun k _ hk=>hk.1),R.row.mv⟩
  · have hst:=hst hk0
    have hfr:=hfr hk0;have hac:∀ w,PAt w q c r K L s1→Calls Tryz.prog 242 #[.pointer (some ⟨q,0,none⟩),.int .i64 (k:Int)] w (Zz w q c r K L (Ws 5 L m (AH.zero 0 0 0) k s1).st (Ws 5 L m (AH.zero 0 0 0) k s1).ds):=fun w h=>ih m (by omega) w q c r K L s1 k h (by omega) hle15 (by omega) (by have:=HN.out;omega)
    obtain⟨k0,l0,c0,tl,ha1,ha2⟩:=act_ds 5 L m (k:Int) (tv.line:Int) (tv.col:Int) k s1;obtain⟨_,_,_,ha3⟩:=act_head 5 L m (k:Int) (tv.line:Int) (tv.col:Int) k s1;have hrk:=rem_act L 5 m (AH.zero 0 0 0) k s1;have hlen:(Ds.int k0 (.int l0 (.int c0 tl))).len=53:=by rw[←ha1];exact AH.dsr_len _ _ _ _ _
    have HLn:=Hh hlen;rw[ha1]at hac;clear hlen;rw[←ha3]at hac hrk;generalize Ws 5 L m (AH.zero (k:Int) (tv.line:Int) (tv.col:Int)) k s1=x at *;have q0:((k:Int) == 0)=false:=by rw[beq_eq_false_iff_ne];omega
    have HT:=Hh (And.intro hst (And.intro hm (And.intro hmn (And.intro hacc (And.intro hrem (And.intro hfr (And.intro hrk ha2)))))));clear hst hsp hfn hm hmn hacc hrem hfr hrk ha1 ha2 ha3 hk0;go_wp2_with(first
 |(go_at_call 133;refine hpk.mono ?_;rintro e w1 ⟨rfl,b1⟩
   have nb:=Za w1 (.cells #[.int .i64 tv.k,.string tv.t,.int .i64 tv.n,.int .i64 (tv.line:Int),.int .i64 (tv.col:Int)] 85);have M1:=Hh ((HR.out.row.mv.next b1).next nb);have F1:=Hh (((Wq.start q c wr).next b1).next nb);have K1:=Hh (Zb.made w1 85 #[.int .i64 tv.k,.string tv.t,.int .i64 tv.n,.int .i64 (tv.line:Int),.int .i64 (tv.col:Int)]);have hz1:wr.heap.size≤w1.heap.size:=b1.size;clear b1 nb)
 |(go_at_call 147;refine(hfi _ _ ?_ M1.out.at_).mono ?_;simp;rintro e w2 ⟨rfl,m2⟩
   have M2:=Hh (M1.out.then m2);have F2:=Hh (F1.out.move m2);have K2:=Hh (m2.keeps.whole K1.out (by omega));have hz2:w1.heap.size+1≤w2.heap.size:=by have:=m2.keeps.size;simp at this;omega
   clear m2)
 |(go_at_call 242;refine(hac _ M2.out.at_).mono ?_;rintro e w3 ⟨vs,rfl,d3,m3⟩
   have O3:=Hh (d3.len.trans HLn.out);have N3:=Hh d3.one;obtain⟨u1,rfl,u2,rfl,av,rfl,dt⟩:=d3;have nb:=Za w3 (.cells #[.int .i64 0,.int .i64 0,.int .i64 0,.int .i64 0,.int .i64 0,.int .i64 0,.int .i64 0,.slice none 0 0,.int .i64 0,.int .i64 0,.int .i64 0,.int .i64 0,.int .i64 0,.int .i64 0,.int .i64 0,.slice none 0 0,.int .i64 0,.int .i64 0,.int .i64 0,.int .i64 0,.slice none 0 0,.int .i64 0,.int .i64 0,.int .i64 0,.int .i64 0,.string ⟨#[]⟩,.int .i64 0,.int .i64 0,.int .i64 0,.int .i64 0,.int .i64 0,.int .i64 0,.int .i64 0,.slice none 0 0,.int .i64 0,.int .i64 0,.int .i64 0,.int .i64 0,.slice none 0 0,.int .i64 0,.int .i64 0,.int .i64 0,.int .i64 0,.int .i64 0,.int .i64 0,.slice none 0 0,.int .i64 0,.int .i64 0,.int .i64 0,.int .i64 0,.slice none 0 0,.slice none 0 0,.slice none 0 0] 57);have M3:=Hh ((M2.out.then m3).next nb);have F3:=Hh ((F2.out.move m3).next nb);have K3:=Hh ((m3.keeps.whole K2.out (by omega)).below nb (by have:=m3.keeps.size;omega));have hz3:w2.heap.size≤w3.heap.size:=m3.keeps.size;have T3:=Hh (show Zb (w3.alloc (.cells #[.int .i64 0,.int .i64 0,.int .i64 0,.int .i64 0,.int .i64 0,.int .i64 0,.int .i64 0,.slice none 0 0,.int .i64 0,.int .i64 0,.int .i64 0,.int .i64 0,.int .i64 0,.int .i64 0,.int .i64 0,.slice none 0 0,.int .i64 0,.int .i64 0,.int .i64 0,.int .i64 0,.slice none 0 0,.int .i64 0,.int .i64 0,.int .i64 0,.int .i64 0,.string ⟨#[]⟩,.int .i64 0,.int .i64 0,.int .i64 0,.int .i64 0,.int .i64 0,.int .i64 0,.int .i64 0,.slice none 0 0,.int .i64 0,.int .i64 0,.int .i64 0,.int .i64 0,.slice none 0 0,.int .i64 0,.int .i64 0,.int .i64 0,.int .i64 0,.int .i64 0,.int .i64 0,.slice none 0 0,.int .i64 0,.int .i64 0,.int .i64 0,.int .i64 0,.slice none 0 0,.slice none 0 0,.slice none 0 0] 57)) w3.heap.size 57 Ye.toArray from Zb.made w3 57 #[.int .i64 0,.int .i64 0,.int .i64 0,.int .i64 0,.int .i64 0,.int .i64 0,.int .i64 0,.slice none 0 0,.int .i64 0,.int .i64 0,.int .i64 0,.int .i64 0,.int .i64 0,.int .i64 0,.int .i64 0,.slice none 0 0,.int .i64 0,.int .i64 0,.int .i64 0,.int .i64 0,.slice none 0 0,.int .i64 0,.int .i64 0,.int .i64 0,.int .i64 0,.string ⟨#[]⟩,.int .i64 0,.int .i64 0,.int .i64 0,.int .i64 0,.int .i64 0,.int .i64 0,.int .i64 0,.slice none 0 0,.int .i64 0,.int .i64 0,.int .i64 0,.int .i64 0,.slice none 0 0,.int .i64 0,.int .i64 0,.int .i64 0,.int .i64 0,.int .i64 0,.int .i64 0,.slice none 0 0,.int .i64 0,.int .i64 0,.int .i64 0,.int .i64 0,.slice none 0 0,.slice none 0 0,.slice none 0 0]);have D3:=Hh dt;clear m3 nb dt)
 |((with_reducible refine at_st 6 20 ?_);refine wpList_storeW 57 _ _ 57 w3.heap.size Ye (.int .i64 k0::.int .i64 l0::.int .i64 c0::av) T3.out O3.out (Zx O3.out) N3.out rfl rfl rfl rfl rfl ?_
   intro w4 p4;have M4:=Hh (M3.out.put p4 (by omega) qin cin HR.out.row.rin);have F4:=Hh (F3.out.put p4 (by omega));have K4:=Hh (p4.keeps.whole K3.out (by omega));have D4:=Hh (D3.out.keeps ((Keeps.of_below (S:=fun k=>k=w3.heap.size) (Za w3 _)).trans p4.keeps) (M:=fun k=>w2.heap.size≤k∧k≠w3.heap.size) fun k hk hn=>⟨by omega,hn,by omega⟩);have T4:=Hh p4.whole;have y0:w4.cell? ⟨w3.heap.size,0,none⟩=some (.int .i64 k0):=T4.out.read 0;have y1:w4.cell? ⟨w3.heap.size,1,none⟩=some (.int .i64 l0):=T4.out.read 1;have y2:w4.cell? ⟨w3.heap.size,2,none⟩=some (.int .i64 c0):=T4.out.read 2;have z0:=T4.out.thawed 0;have z1:=T4.out.thawed 1;have z2:=T4.out.thawed 2;have y3:w4.cell? ⟨w1.heap.size,3,none⟩=some (.int .i64 (tv.line:Int)):=K4.out.read 3;have y4:w4.cell? ⟨w1.heap.size,4,none⟩=some (.int .i64 (tv.col:Int)):=K4.out.read 4;have hne:¬(w3.heap.size=w1.heap.size):=by omega
   clear p4))
    go_region
    have p5:=T4.out.set3L (.int .i64 (k:Int)) (.int .i64 (tv.line:Int)) (.int .i64 (tv.col:Int));generalize h5:((w4.setCell ⟨w3.heap.size,0,none⟩ (.int .i64 (k:Int))).setCell ⟨w3.heap.size,1,none⟩ (.int .i64 (tv.line:Int))).setCell ⟨w3.heap.size,2,none⟩ (.int .i64 (tv.col:Int))=w5 at *;have M5:=Hh (M4.out.put p5 (by omega) qin cin HR.out.row.rin).drew;have F5:=Hh ((F4.out.put p5 (by omega)).drew);have D5:=Hh (D4.out.keeps (p5.keeps.drew) (M:=fun k=>w2.heap.size≤k) fun k hk hn=>⟨by omega,hn.1⟩);have T5:=Hh p5.whole.drew;have D6:=Hh (show Deep (fun k=>w2.heap.size≤k) w5.drew x.ds (.int .i64 (k:Int)::.int .i64 (tv.line:Int)::.int .i64 (tv.col:Int)::av)from by rw[HT.out.2.2.2.2.2.2.2];exact⟨_,rfl,_,rfl,_,rfl,D5.out⟩);have L5:(Value.int .i64 (k:Int)::.int .i64 (tv.line:Int)::.int .i64 (tv.col:Int)::av).length=53:=by have:=O3.out;simpa using this
    have O5:=Hh L5;have hz5:w3.heap.size+1≤w5.drew.heap.size:=T5.out.inside;clear h5 p5 L5;generalize w5.drew=w6 at *;go_wp2_with(first
 |((with_reducible refine at_ld 30 ?_);refine wpList_loadW 57 _ 57 w3.heap.size _ T5.out row_act (Zx O5.out) rfl rfl rfl ?_)
 |((with_reducible refine at_ld 31 ?_);refine Zjy 41 57 (.tmp 30) 31 53 576 zact (.int .i64 (k:Int)::.int .i64 (tv.line:Int)::.int .i64 (tv.col:Int)::av) info_act O5.out (by decide) (by decide) und_acts rfl rfl rfl rfl ?_
   have nb:=Za w6 (.cells (Value.int .i64 (k:Int)::.int .i64 (tv.line:Int)::.int .i64 (tv.col:Int)::av).toArray 57);have R6:=Hh (HR.out.round (F5.out.next nb) (M5.out.next nb));have W6:=Hh (Zb.made w6 57 (Value.int .i64 (k:Int)::.int .i64 (tv.line:Int)::.int .i64 (tv.col:Int)::av).toArray);have D7:=Hh (D6.out.below nb);clear nb)
 |(at_builtin;refine wpList_pushL (.tmp 29) (.tmp 31) 41 57 53 576 _ und_acts info_act rfl (by decide) (by decide) w.heap.size (.slice A acc.len cp) acc.len xs (.int .i64 (k:Int)::.int .i64 (tv.line:Int)::.int .i64 (tv.col:Int)::av) R6.out.row.row w6.heap.size W6.out O5.out D7.out.one (by have:=HT.out.2.2.2.1;have:=HN.out.2;omega) (by simp;omega) rfl rfl rfl rfl ?_
   intro v9 w9 o9 g9 at9
   have R9:=Hh (R6.out.push o9 g9 at9 (D7.out.mono fun k _ hk=>⟨by omega,fun c=>by have:=HR.out.row.row.lt _ c;omega⟩));clear o9 g9 at9))
    go_roundw
    case rel=>
     obtain⟨h1,h2,h3,h4,h5,h6,h7,h8⟩:=HT.out;refine⟨m,acc.app (.cons x.h x.thn x.els .nil),xs++(.int .i64 (k:Int)::.int .i64 (tv.line:Int)::.int .i64 (tv.col:Int)::av),x.st,?_,?_,?_,?_,?_⟩
     ·have R:=R9.out
      have e1:(acc.app (.cons x.h x.thn x.els .nil)).ds=acc.ds.app x.ds:=by rw[Acs.ds_app];congr 1;exact Ds.app_nil _
      have e2:(acc.app (.cons x.h x.thn x.els .nil)).len=acc.len+1:=by rw[Acs.len_app];rfl
      rw[e1,e2];exact R
     ·omega
     ·omega
     ·rw[Acs.len_app];simp only[Acs.len];omega
     ·rw[HQ.out,h1,Acs.app_assoc];rfl
    case measure=>
     obtain⟨h1,h2,h3,h4,h5,h6,h7,h8⟩:=HT.out;have:=R9.out.row.mv.at_.rem;rw[this,h5];omega
theorem acts_all:∀ n m:Nat,m≤n→ActsOK m∧BlockOK m∧ActOK m:=by
 intro n;induction n with
 |zero=>
  intro m hm;obtain rfl:m=0:=by omega
  exact⟨fun w q c r K L st h hn _=>absurd hn (by omega),fun w q c r K L st h hn _=>absurd hn (by omega),fun w q c r K L st k h _ _ hn _=>absurd hn (by omega)⟩
 |succ n ih=>
  intro m hm;by_cases e:m≤n
  ·exact ih m e
  ·obtain rfl:m=n+1:=by omega
   exact⟨xacts (n+1) fun k hk=>(ih k (by omega)).2.2,xblock n (ih n (Nat.le_refl _)).1,xact n (ih n (Nat.le_refl _)).2.1⟩
theorem xactss(w:World)(q c r K:Nat)(L:List TokV)(st:St)(n:Nat)(h:PAt w q c r K L st)(hn:8*Zk L st+8≤n)(hLn:Zk L st≤68719476736) :
 Calls Tryz.prog 211 #[.pointer (some ⟨q,0,none⟩)] w (Zac w q c r K L (Xc 5 L n st).2 (Xc 5 L n st).1.len (Xc 5 L n st).1.ds):=(acts_all n n (Nat.le_refl _)).1 w q c r K L st h hn hLn
def Ru.ds(x:Ru):Ds:=.int x.when_ (.int x.stratum (.int x.line (.int x.col (.row x.acts.len x.acts.ds .nil))))
def rusDs:List Ru→Ds
 |[]=>.nil
 |x::r=>x.ds.app (rusDs r)
theorem rusDs_snoc(x:Ru):∀ l:List Ru,rusDs (l++[x])=(rusDs l).app x.ds
 |[]=>Ds.app_nil _
 |y::l=>by show y.ds.app (rusDs (l++[x]))=(y.ds.app (rusDs l)).app x.ds;rw[rusDs_snoc x l,Ds.app_assoc]
theorem und_rus:Tryz.prog.underlying 33=some (.slice 66):=by kernel_rfl
theorem info_ru:(Tryz.prog.info? 66).map (fun i=>(i.zero,i.size,i.bytes))=some (some (.agg #[.int .i64 0,.int .i64 0,.int .i64 0,.int .i64 0,.slice none 0 0]),5,56):=by kernel_rfl
theorem row_ru:(Tryz.prog.underlying 66).map TypeDesc.isRow=some true:=by kernel_rfl
theorem size_ru:(Tryz.prog.info? 66).map (·.size)=some 5:=by kernel_rfl
theorem size_rus:(Tryz.prog.info? 33).map (·.size)=some 1:=by kernel_rfl
theorem row_ca:(Tryz.prog.underlying 35).map TypeDesc.isRow=some true:=by kernel_rfl
theorem Zkf:(Tryz.prog.info? 35).map (·.size)=some 6:=by kernel_rfl
theorem row_pl:(Tryz.prog.underlying 38).map TypeDesc.isRow=some true:=by kernel_rfl
theorem Zke:(Tryz.prog.info? 38).map (·.size)=some 4:=by kernel_rfl
theorem rules_step(nk:Int)(L:List TokV)(m:Nat)(st:St)(h:¬ Zd L Yl st=0):Wn nk L (m+1) st =
 (⟨Zd L Yl st,Zka L (Zd L Yl st) (Zn L Yl st),(st.tok L).line,(st.tok L).col,(Xc nk L m (Yg L Yz (Zbh L (Zd L Yl st) (Zn L Yl st)))).1⟩ ::
    (Wn nk L m (Yg L Xl (Xc nk L m (Yg L Yz (Zbh L (Zd L Yl st) (Zn L Yl st)))).2)).1,
   (Wn nk L m (Yg L Xl (Xc nk L m (Yg L Yz (Zbh L (Zd L Yl st) (Zn L Yl st)))).2)).2):=by rw[Wn,if_neg h]
theorem rules_stop(nk:Int)(L:List TokV)(m:Nat)(st:St)(h:Zd L Yl st=0):Wn nk L (m+1) st=([],st):=by rw[Wn,if_pos h]
theorem xrules(n:Nat)(w:World)(q c r K:Nat)(L:List TokV)(st:St)(h:PAt w q c r K L st)(hn:8*Zk L st+9≤n)(hLn:Zk L st≤68719476736) :
  Calls Tryz.prog 182 #[.pointer (some ⟨q,0,none⟩)] w (Zac w q c r K L (Vx 5 L n st).2 (Vx 5 L n st).1.length (rusDs (Vx 5 L n st).1)):=by
 have qin:=h.whole.inside;have cin:=h.cin;have rin:=h.rin;have hrw:=Yv L Yz st;have hw0:Calls Tryz.prog 178 #[.pointer (some ⟨q,0,none⟩),.string ⟨#[123]⟩] w (Zv w q c r K L (Yg L Yz st) (.tuple #[])):=Zcv w q c r K L st Yz h;unfold Vx;generalize Yg L Yz st=st1 at *;have HN:=Hh (And.intro (show 8*Zk L st1+9≤n by omega) (show Zk L st1≤68719476736 by omega));clear hn h hLn hrw;go_enter Tryz.func182,Tryz.ntmps182
 go_wp2_with(go_at_call 178;refine hw0.mono ?_;rintro e w0 ⟨rfl,m0⟩
             have H0:=Hh (show RowD w q c r K L 66 5 st1 0 .nil [] (.slice none 0 0) w0 from⟨⟨m0,World.ownsRow_nil _ _ _ _,qin,cin,rin⟩,rfl⟩);clear m0)
 go_loopw [3] (fun v wr=>∃(m:Nat)(acc:List Ru)(xs:List Value)(s:St),RowD w q c r K L 66 5 s acc.length (rusDs acc) xs v wr∧8*Zk L s+9≤m∧m≤n∧acc.length+Zk L s≤Zk L st1∧Wn 5 L n st1=(acc++(Wn 5 L m s).1,(Wn 5 L m s).2)) (fun _ wr=>remW q c wr)
 case atStart=>exact⟨n,[],[],st1,H0.out,HN.out.1,Nat.le_refl _,by simp,by simp⟩
 case round=>
  obtain⟨m,acc,xs,s,hR,hm,hmn,hacc,heq⟩:=hrel;obtain⟨m,rfl⟩:∃ m',m=m'+1:=⟨m - 1,by omega⟩
  obtain⟨A,cp,rfl,_,_,_⟩:=own_form hR.row.row;have hcell:=hR.row.mv.at_.cell;have hrem:=hR.row.mv.at_.rem;have hpk:=xPeek wr q c r K L s hR.row.mv.at_;have hz0:=hR.row.mv.keeps.size;have hfr:=Wi (L:=L) (ws:=Yl) (st:=s);have hfn:=Jn L (ws:=Yl) (st:=s);have hst:=rules_step 5 L m s;have hsp:=rules_stop 5 L m s;have hfi:∀ W G,G=W.heap.size→PAt W q c r K L s→Calls Tryz.prog 147 #[.pointer (some ⟨q,0,none⟩),.slice (some ⟨G,0,none⟩) 6 6] (W.alloc (.cells #[.string ⟨#[114,101,118,101,97,108]⟩,.string ⟨#[100,101,97,116,104]⟩,.string ⟨#[109,111,118,101,100]⟩,.string ⟨#[101,110,100]⟩,.string ⟨#[97,108,119,97,121,115]⟩,.string ⟨#[101,110,116,101,114]⟩] 9)) fun e w'=>e=.returned (.int .i64 (Zd L Yl s:Int))∧Yc W w' q c r K L (Zn L Yl s):=fun W G h2 h=>xfindB W q c r K G L s Yl 6 6 _ rfl h2 h rfl (by decide)
  generalize s.tok L=tv at *;unfold Vk at hpk;generalize Zd L Yl s=k at *;generalize Zn L Yl s=s1 at *;have HR:=Hh hR;have HQ:=Hh heq;clear hR heq;by_cases hk0:k=0
  · have HS:=Hh (And.intro (hsp hk0) (hfn hk0))
    subst hk0;rw[show((0:Nat):Int)=0 from rfl]at hfi;have hw1:∀ w,PAt w q c r K L s1→Calls Tryz.prog 178 #[.pointer (some ⟨q,0,none⟩),.string ⟨#[125]⟩] w (Zv w q c r K L (Yg L Xl s1) (.tuple #[])):=fun w h=>Zcv w q c r K L s1 Xl h
    clear hst hsp hfn hfr hm hmn hacc hrem;go_wp2_with(first
 |(go_at_call 133;refine hpk.mono ?_;rintro e w1 ⟨rfl,b1⟩
   have nb:=Za w1 (.cells #[.int .i64 tv.k,.string tv.t,.int .i64 tv.n,.int .i64 (tv.line:Int),.int .i64 (tv.col:Int)] 85);have M1:=Hh ((HR.out.row.mv.next b1).next nb);have F1:=Hh (((Wq.start q c wr).next b1).next nb);have K1:=Hh (Zb.made w1 85 #[.int .i64 tv.k,.string tv.t,.int .i64 tv.n,.int .i64 (tv.line:Int),.int .i64 (tv.col:Int)]);have hz1:wr.heap.size≤w1.heap.size:=b1.size;clear b1 nb)
 |(go_at_call 147;refine(hfi _ _ ?_ M1.out.at_).mono ?_;simp;rintro e w2 ⟨rfl,m2⟩
   have M2:=Hh (M1.out.then m2);have F2:=Hh (F1.out.move m2);clear m2)
 |(go_at_call 178;refine(hw1 _ M2.out.at_).mono ?_;rintro e w3 ⟨rfl,m3⟩
   have M3:=Hh (M2.out.then m3)
   have F3:=Hh (F2.out.move m3);clear m3))
    go_ret;obtain⟨e1,e2⟩:=HS.out;have R:=HR.out.round F3.out M3.out;rw[e2]at R;rw[HQ.out,e1];dsimp only;rw[List.append_nil];exact⟨_,rfl,Deep.rowOf R.row.row (fun k hk=>hk) (R.deep.mono fun k _ hk=>hk.1),R.row.mv⟩
  · have hst:=hst hk0
    have hfr:=hfr hk0;have q0:((k:Int) == 0)=false:=by rw[beq_eq_false_iff_ne];omega
    have hrs:=Zkg L k s1;have hra:=Yv L Yz (Zbh L k s1);have hw1:∀ w,PAt w q c r K L (Zbh L k s1)→Calls Tryz.prog 178 #[.pointer (some ⟨q,0,none⟩),.string ⟨#[123]⟩] w (Zv w q c r K L (Yg L Yz (Zbh L k s1)) (.tuple #[])):=fun w h=>Zcv w q c r K L _ Yz h
    generalize Yg L Yz (Zbh L k s1)=s3 at *;have hac:∀ w,PAt w q c r K L s3→Calls Tryz.prog 211 #[.pointer (some ⟨q,0,none⟩)] w (Zac w q c r K L (Xc 5 L m s3).2 (Xc 5 L m s3).1.len (Xc 5 L m s3).1.ds):=fun w h=>xactss w q c r K L s3 m h (by omega) (by have:=HN.out;omega)
    have hrx:=Zhg L 5 m s3;generalize Xc 5 L m s3=xa at *;have hru:=Yv L Xl xa.2;have hw2:∀ w,PAt w q c r K L xa.2→Calls Tryz.prog 178 #[.pointer (some ⟨q,0,none⟩),.string ⟨#[125]⟩] w (Zv w q c r K L (Yg L Xl xa.2) (.tuple #[])):=fun w h=>Zcv w q c r K L _ Xl h
    generalize Yg L Xl xa.2=s4 at *;have hle4:Zk L s4≤Zk L s1:=by omega
    by_cases h5:k=5
    ·have q5:((k:Int) == 5)=true:=by rw[h5];rfl
     have e1:Zbh L k s1=Zbk L s1:=if_pos h5;have e2:Zka L k s1=Zdh L s1:=if_pos h5;rw[e1]at hw1;rw[e2]at hst;have hrd:∀ w,PAt w q c r K L s1→Calls Tryz.prog 179 #[.pointer (some ⟨q,0,none⟩),.func (.func 180) #[Xn c s1] #[]] w (Zv w q c r K L (Zbk L s1) (.int .i64 (Zdh L s1))):=fun w h=>Zgx w q c r K L s1 h
     generalize Zdh L s1=sm at *;generalize Zbk L s1=s2 at *;have HT:=Hh (And.intro hst (And.intro hm (And.intro hmn (And.intro hacc (And.intro hrem (And.intro hfr hle4))))));clear hst hsp hfn hm hmn hacc hrem hfr hrs hra hrx hru e1 e2 h5 hk0 hle4;go_wp2_with(first
 |(go_at_call 133;refine hpk.mono ?_;rintro e w1 ⟨rfl,b1⟩
   have nb:=Za w1 (.cells #[.int .i64 tv.k,.string tv.t,.int .i64 tv.n,.int .i64 (tv.line:Int),.int .i64 (tv.col:Int)] 85);have M1:=Hh ((HR.out.row.mv.next b1).next nb);have F1:=Hh (((Wq.start q c wr).next b1).next nb);have K1:=Hh (Zb.made w1 85 #[.int .i64 tv.k,.string tv.t,.int .i64 tv.n,.int .i64 (tv.line:Int),.int .i64 (tv.col:Int)]);have hz1:wr.heap.size≤w1.heap.size:=b1.size;clear b1 nb)
 |(go_at_call 147;refine(hfi _ _ ?_ M1.out.at_).mono ?_;simp;rintro e w2 ⟨rfl,m2⟩
   have K2:=m2.keeps.whole K1.out (by omega);have y3:w2.cell? ⟨w1.heap.size,3,none⟩=some (.int .i64 (tv.line:Int)):=K2.read 3;have y4:w2.cell? ⟨w1.heap.size,4,none⟩=some (.int .i64 (tv.col:Int)):=K2.read 4;have hz2:w1.heap.size+1≤w2.heap.size:=by have:=m2.keeps.size;simp at this;omega
   have nb:=Za w2 (.cells #[.int .i64 (k:Int),.int .i64 0,.int .i64 (tv.line:Int),.int .i64 (tv.col:Int),.slice none 0 0] 66);have M2:=Hh ((M1.out.then m2).next nb);have hcell:=M2.out.at_.cell;have F2:=Hh ((F1.out.move m2).next nb);have T2:=Hh (show Zb _ _ _ ([.int .i64 (k:Int),.int .i64 0,.int .i64 (tv.line:Int),.int .i64 (tv.col:Int),.slice none 0 0]:List Value).toArray from Zb.made w2 66 #[.int .i64 (k:Int),.int .i64 0,.int .i64 (tv.line:Int),.int .i64 (tv.col:Int),.slice none 0 0]);clear m2 nb K2)
 |(go_at_call 179;refine(hrd _ M2.out.at_).mono ?_;rintro e w3 ⟨rfl,m3⟩
   have T3:=Hh (m3.keeps.whole T2.out (by omega));have F3:=Hh (F2.out.move m3);have M3:=Hh (M2.out.then m3);have hz3:w2.heap.size+1≤w3.heap.size:=by have:=m3.keeps.size;(try simp at this);omega
   have hcell:=M3.out.at_.cell;clear m3)
 |((with_reducible refine at_st 37 36 ?_);refine wpList_store1 3 _ _ 66 (w2.heap.size) 1 [.int .i64 (k:Int)] (.int .i64 0) (.int .i64 sm) ([.int .i64 (tv.line:Int),.int .i64 (tv.col:Int),.slice none 0 0]) (show Zb _ _ _ _ from T3.out) rfl Yo rfl rfl rfl rfl rfl rfl ?_
   intro w4 p4;have T4:=Hh (show Zb w4 (w2.heap.size) 66 ([.int .i64 (k:Int),.int .i64 sm,.int .i64 (tv.line:Int),.int .i64 (tv.col:Int),.slice none 0 0]).toArray from by first | exact p4.whole | simpa using p4.whole);have F4:=Hh (F3.out.put p4 (by omega));have M4:=Hh (M3.out.put p4 (by omega) qin cin rin);have hz4:=Nat.le_trans hz3 p4.keeps.size;have hcell:=M4.out.at_.cell;clear p4)
 |(go_at_call 178;(with_reducible refine(hw1 _ ?_).mono ?_);exact M4.out.at_;rintro e w5 ⟨rfl,m5⟩
   have T5:=Hh (m5.keeps.whole T4.out (by omega));have F5:=Hh (F4.out.move m5);have M5:=Hh (M4.out.then m5);have hz5:=Nat.le_trans hz4 m5.keeps.size;have hcell:=M5.out.at_.cell;clear m5)
 |(go_at_call 211;refine(hac _ M5.out.at_).mono ?_;rintro e w6 ⟨av,rfl,d6,m6⟩
   have T6:=Hh (m6.keeps.whole T5.out (by omega));have F6:=Hh (F5.out.move m6);have M6:=Hh (M5.out.then m6);have hz6:=Nat.le_trans hz5 m6.keeps.size;have hcell:=M6.out.at_.cell;have A6:=Hh (d6.lower (show w2.heap.size+1≤_ by first | omega | (simp;done) | (simp;omega)));obtain⟨Aa,Ac,rfl⟩:=A6.out.slice;clear m6 d6)
 |((with_reducible refine at_st 42 41 ?_);refine wpList_store1 41 _ _ 66 (w2.heap.size) 4 [.int .i64 (k:Int),.int .i64 sm,.int .i64 (tv.line:Int),.int .i64 (tv.col:Int)] (.slice none 0 0) (.slice Aa xa.1.len Ac) ([]) (show Zb _ _ _ _ from T6.out) rfl Zbm rfl rfl rfl rfl rfl rfl ?_
   intro w7 p7;have T7:=Hh (show Zb w7 (w2.heap.size) 66 ([.int .i64 (k:Int),.int .i64 sm,.int .i64 (tv.line:Int),.int .i64 (tv.col:Int),.slice Aa xa.1.len Ac]).toArray from by first | exact p7.whole | simpa using p7.whole);have F7:=Hh (F6.out.put p7 (by omega));have A7:=Hh (A6.out.put p7 (by omega));have M7:=Hh (M6.out.put p7 (by omega) qin cin rin);have hz7:=Nat.le_trans hz6 p7.keeps.size;have hcell:=M7.out.at_.cell;clear p7)
 |(go_at_call 178;(with_reducible refine(hw2 _ ?_).mono ?_);exact M7.out.at_;rintro e w8 ⟨rfl,m8⟩
   have T8:=Hh (m8.keeps.whole T7.out (by omega));have F8:=Hh (F7.out.move m8);have A8:=Hh (A7.out.move m8 (by omega) (by omega));have M8:=Hh (M7.out.then m8);have hz8:=Nat.le_trans hz7 m8.keeps.size;have hcell:=M8.out.at_.cell;clear m8)
 |((with_reducible refine at_ld 46 ?_);refine wpList_loadW 66 _ 66 (w2.heap.size) _ T8.out row_ru size_ru rfl rfl rfl ?_)
 |(at_builtin;refine wpList_pushL (.tmp 45) (.tmp 47) 33 66 5 56 _ und_rus info_ru rfl (by decide) (by decide) w.heap.size (.slice A acc.length cp) acc.length xs [.int .i64 (k:Int),.int .i64 sm,.int .i64 (tv.line:Int),.int .i64 (tv.col:Int),.slice Aa xa.1.len Ac] (HR.out.round (F8.out.next (Za _ (.cells [.int .i64 (k:Int),.int .i64 sm,.int .i64 (tv.line:Int),.int .i64 (tv.col:Int),.slice Aa xa.1.len Ac].toArray 66))) (M8.out.next (Za _ (.cells [.int .i64 (k:Int),.int .i64 sm,.int .i64 (tv.line:Int),.int .i64 (tv.col:Int),.slice Aa xa.1.len Ac].toArray 66)))).row.row w8.heap.size (Zb.made _ _ _) rfl (by simp[Value.oneCell']) (by have:=HT.out.2.2.2.1;have:=HN.out.2;omega) (by simp;omega) rfl rfl rfl rfl ?_
   intro v9 w9 o9 g9 at9
   have R9:=Hh ((HR.out.round (F8.out.next (Za _ (.cells [.int .i64 (k:Int),.int .i64 sm,.int .i64 (tv.line:Int),.int .i64 (tv.col:Int),.slice Aa xa.1.len Ac].toArray 66))) (M8.out.next (Za _ (.cells [.int .i64 (k:Int),.int .i64 sm,.int .i64 (tv.line:Int),.int .i64 (tv.col:Int),.slice Aa xa.1.len Ac].toArray 66)))).push o9 g9 at9 (((show Deep (fun k=>w2.heap.size+1≤k) w8 (Ru.ds ⟨(k:Int),sm,(tv.line:Int),(tv.col:Int),xa.1⟩) [.int .i64 (k:Int),.int .i64 sm,.int .i64 (tv.line:Int),.int .i64 (tv.col:Int),.slice Aa xa.1.len Ac]from⟨_,rfl,_,rfl,_,rfl,_,rfl,A8.out⟩).below (Za _ _)).mono fun k _ hk=>⟨by omega,fun c=>by have:=HR.out.row.row.lt _ c;omega⟩));clear o9 g9 at9))
     go_roundw
     case rel=>
      obtain⟨h1,h2,h3,h4,h5,h6,h7⟩:=HT.out;refine⟨m,acc++[⟨(k:Int),sm,(tv.line:Int),(tv.col:Int),xa.1⟩],xs++[.int .i64 (k:Int),.int .i64 sm,.int .i64 (tv.line:Int),.int .i64 (tv.col:Int),.slice Aa xa.1.len Ac],s4,?_,?_,?_,?_,?_⟩
      ·have R:=R9.out
       rw[rusDs_snoc,List.length_append];exact R
      ·omega
      ·omega
      ·rw[List.length_append];simp only[List.length_cons,List.length_nil];omega
      ·rw[HQ.out,h1];simp
     case measure=>
      obtain⟨h1,h2,h3,h4,h5,h6,h7⟩:=HT.out;have:=R9.out.row.mv.at_.rem;rw[this,h5];omega
    ·have q5:((k:Int) == 5)=false:=by rw[beq_eq_false_iff_ne];omega
     have e1:Zbh L k s1=s1:=if_neg h5;have e2:Zka L k s1=0:=if_neg h5;rw[e1]at hw1;rw[e2]at hst;have HT:=Hh (And.intro hst (And.intro hm (And.intro hmn (And.intro hacc (And.intro hrem (And.intro hfr hle4))))));clear hst hsp hfn hm hmn hacc hrem hfr hrs hra hrx hru e1 e2 h5 hk0 hle4;go_wp2_with(first
 |(go_at_call 133;refine hpk.mono ?_;rintro e w1 ⟨rfl,b1⟩
   have nb:=Za w1 (.cells #[.int .i64 tv.k,.string tv.t,.int .i64 tv.n,.int .i64 (tv.line:Int),.int .i64 (tv.col:Int)] 85);have M1:=Hh ((HR.out.row.mv.next b1).next nb);have F1:=Hh (((Wq.start q c wr).next b1).next nb);have K1:=Hh (Zb.made w1 85 #[.int .i64 tv.k,.string tv.t,.int .i64 tv.n,.int .i64 (tv.line:Int),.int .i64 (tv.col:Int)]);have hz1:wr.heap.size≤w1.heap.size:=b1.size;clear b1 nb)
 |(go_at_call 147;refine(hfi _ _ ?_ M1.out.at_).mono ?_;simp;rintro e w2 ⟨rfl,m2⟩
   have K2:=m2.keeps.whole K1.out (by omega);have y3:w2.cell? ⟨w1.heap.size,3,none⟩=some (.int .i64 (tv.line:Int)):=K2.read 3;have y4:w2.cell? ⟨w1.heap.size,4,none⟩=some (.int .i64 (tv.col:Int)):=K2.read 4;have hz2:w1.heap.size+1≤w2.heap.size:=by have:=m2.keeps.size;simp at this;omega
   have nb:=Za w2 (.cells #[.int .i64 (k:Int),.int .i64 0,.int .i64 (tv.line:Int),.int .i64 (tv.col:Int),.slice none 0 0] 66);have M2:=Hh ((M1.out.then m2).next nb);have hcell:=M2.out.at_.cell;have F2:=Hh ((F1.out.move m2).next nb);have T2:=Hh (show Zb _ _ _ ([.int .i64 (k:Int),.int .i64 0,.int .i64 (tv.line:Int),.int .i64 (tv.col:Int),.slice none 0 0]:List Value).toArray from Zb.made w2 66 #[.int .i64 (k:Int),.int .i64 0,.int .i64 (tv.line:Int),.int .i64 (tv.col:Int),.slice none 0 0]);clear m2 nb K2)
 |(go_at_call 178;(with_reducible refine(hw1 _ ?_).mono ?_);exact M2.out.at_;rintro e w3 ⟨rfl,m3⟩
   have T3:=Hh (m3.keeps.whole T2.out (by omega));have F3:=Hh (F2.out.move m3);have M3:=Hh (M2.out.then m3);have hz3:w2.heap.size+1≤w3.heap.size:=by have:=m3.keeps.size;(try simp at this);omega
   have hcell:=M3.out.at_.cell;clear m3)
 |(go_at_call 211;refine(hac _ M3.out.at_).mono ?_;rintro e w4 ⟨av,rfl,d4,m4⟩
   have T4:=Hh (m4.keeps.whole T3.out (by omega));have F4:=Hh (F3.out.move m4);have M4:=Hh (M3.out.then m4);have hz4:=Nat.le_trans hz3 m4.keeps.size;have hcell:=M4.out.at_.cell;have A4:=Hh (d4.lower (show w2.heap.size+1≤_ by first | omega | (simp;done) | (simp;omega)));obtain⟨Aa,Ac,rfl⟩:=A4.out.slice;clear m4 d4)
 |((with_reducible refine at_st 42 41 ?_);refine wpList_store1 41 _ _ 66 (w2.heap.size) 4 [.int .i64 (k:Int),.int .i64 0,.int .i64 (tv.line:Int),.int .i64 (tv.col:Int)] (.slice none 0 0) (.slice Aa xa.1.len Ac) ([]) (show Zb _ _ _ _ from T4.out) rfl Zbm rfl rfl rfl rfl rfl rfl ?_
   intro w5 p5;have T5:=Hh (show Zb w5 (w2.heap.size) 66 ([.int .i64 (k:Int),.int .i64 0,.int .i64 (tv.line:Int),.int .i64 (tv.col:Int),.slice Aa xa.1.len Ac]).toArray from by first | exact p5.whole | simpa using p5.whole);have F5:=Hh (F4.out.put p5 (by omega));have A5:=Hh (A4.out.put p5 (by omega));have M5:=Hh (M4.out.put p5 (by omega) qin cin rin);have hz5:=Nat.le_trans hz4 p5.keeps.size;have hcell:=M5.out.at_.cell;clear p5)
 |(go_at_call 178;(with_reducible refine(hw2 _ ?_).mono ?_);exact M5.out.at_;rintro e w6 ⟨rfl,m6⟩
   have T6:=Hh (m6.keeps.whole T5.out (by omega));have F6:=Hh (F5.out.move m6);have A6:=Hh (A5.out.move m6 (by omega) (by omega));have M6:=Hh (M5.out.then m6);have hz6:=Nat.le_trans hz5 m6.keeps.size;have hcell:=M6.out.at_.cell;clear m6)
 |((with_reducible refine at_ld 46 ?_);refine wpList_loadW 66 _ 66 (w2.heap.size) _ T6.out row_ru size_ru rfl rfl rfl ?_)
 |(at_builtin;refine wpList_pushL (.tmp 45) (.tmp 47) 33 66 5 56 _ und_rus info_ru rfl (by decide) (by decide) w.heap.size (.slice A acc.length cp) acc.length xs [.int .i64 (k:Int),.int .i64 0,.int .i64 (tv.line:Int),.int .i64 (tv.col:Int),.slice Aa xa.1.len Ac] (HR.out.round (F6.out.next (Za _ (.cells [.int .i64 (k:Int),.int .i64 0,.int .i64 (tv.line:Int),.int .i64 (tv.col:Int),.slice Aa xa.1.len Ac].toArray 66))) (M6.out.next (Za _ (.cells [.int .i64 (k:Int),.int .i64 0,.int .i64 (tv.line:Int),.int .i64 (tv.col:Int),.slice Aa xa.1.len Ac].toArray 66)))).row.row w6.heap.size (Zb.made _ _ _) rfl (by simp[Value.oneCell']) (by have:=HT.out.2.2.2.1;have:=HN.out.2;omega) (by simp;omega) rfl rfl rfl rfl ?_
   intro v9 w9 o9 g9 at9
   have R9:=Hh ((HR.out.round (F6.out.next (Za _ (.cells [.int .i64 (k:Int),.int .i64 0,.int .i64 (tv.line:Int),.int .i64 (tv.col:Int),.slice Aa xa.1.len Ac].toArray 66))) (M6.out.next (Za _ (.cells [.int .i64 (k:Int),.int .i64 0,.int .i64 (tv.line:Int),.int .i64 (tv.col:Int),.slice Aa xa.1.len Ac].toArray 66)))).push o9 g9 at9 (((show Deep (fun k=>w2.heap.size+1≤k) w6 (Ru.ds ⟨(k:Int),0,(tv.line:Int),(tv.col:Int),xa.1⟩) [.int .i64 (k:Int),.int .i64 0,.int .i64 (tv.line:Int),.int .i64 (tv.col:Int),.slice Aa xa.1.len Ac]from⟨_,rfl,_,rfl,_,rfl,_,rfl,A6.out⟩).below (Za _ _)).mono fun k _ hk=>⟨by omega,fun c=>by have:=HR.out.row.row.lt _ c;omega⟩));clear o9 g9 at9))
     go_roundw
     case rel=>
      obtain⟨h1,h2,h3,h4,h5,h6,h7⟩:=HT.out;refine⟨m,acc++[⟨(k:Int),0,(tv.line:Int),(tv.col:Int),xa.1⟩],xs++[.int .i64 (k:Int),.int .i64 0,.int .i64 (tv.line:Int),.int .i64 (tv.col:Int),.slice Aa xa.1.len Ac],s4,?_,?_,?_,?_,?_⟩
      ·have R:=R9.out
       rw[rusDs_snoc,List.length_append];exact R
      ·omega
      ·omega
      ·rw[List.length_append];simp only[List.length_cons,List.length_nil];omega
      ·rw[HQ.out,h1];simp
     case measure=>
      obtain⟨h1,h2,h3,h4,h5,h6,h7⟩:=HT.out;have:=R9.out.row.mv.at_.rem;rw[this,h5];omega
def Ca.ds(x:Ca):Ds:=.str x.name (.int x.cost (.int x.power (.int x.line (.int x.col (.row x.rules.length (rusDs x.rules) .nil)))))
def Pl.ds(x:Pl):Ds:=.str x.name (.int x.line (.int x.col (.row x.rules.length (rusDs x.rules) .nil)))
def casDs:List Ca→Ds
 |[]=>.nil
 |x::r=>x.ds.app (casDs r)
def plsDs:List Pl→Ds
 |[]=>.nil
 |x::r=>x.ds.app (plsDs r)
theorem Zgv(x:Ca):∀ l:List Ca,casDs (l++[x])=(casDs l).app x.ds
 |[]=>Ds.app_nil _
 |y::l=>by show y.ds.app (casDs (l++[x]))=(y.ds.app (casDs l)).app x.ds;rw[Zgv x l,Ds.app_assoc]
theorem Zgm(x:Pl):∀ l:List Pl,plsDs (l++[x])=(plsDs l).app x.ds
 |[]=>Ds.app_nil _
 |y::l=>by show y.ds.app (plsDs (l++[x]))=(y.ds.app (plsDs l)).app x.ds;rw[Zgm x l,Ds.app_assoc]
def Fi.ds(x:Fi):Ds:=.row x.cards.length (casDs x.cards) (.row x.places.length (plsDs x.places) .nil)
theorem und_cas:Tryz.prog.underlying 23=some (.slice 35):=by kernel_rfl
theorem und_pls:Tryz.prog.underlying 24=some (.slice 38):=by kernel_rfl
theorem info_ca:(Tryz.prog.info? 35).map (fun i=>(i.zero,i.size,i.bytes))=some (some (.agg #[.string ⟨#[]⟩,.int .i64 0,.int .i64 0,.int .i64 0,.int .i64 0,.slice none 0 0]),6,72):=by kernel_rfl
theorem info_pl:(Tryz.prog.info? 38).map (fun i=>(i.zero,i.size,i.bytes))=some (some (.agg #[.string ⟨#[]⟩,.int .i64 0,.int .i64 0,.slice none 0 0]),4,56):=by kernel_rfl
theorem size_cas:(Tryz.prog.info? 23).map (·.size)=some 1:=by kernel_rfl
theorem size_pls:(Tryz.prog.info? 24).map (·.size)=some 1:=by kernel_rfl
theorem Zeu:(Tryz.prog.underlying 26).map TypeDesc.isRow=some true:=by kernel_rfl
theorem Up:(Tryz.prog.info? 26).map (·.size)=some 2:=by kernel_rfl
theorem xcard(w:World)(q c r K:Nat)(L:List TokV)(st:St)(n:Nat)(h:PAt w q c r K L st)(hn:8*Zk L st+9≤n)(hLn:Zk L st≤68719476736) :
  Calls Tryz.prog 137 #[.pointer (some ⟨q,0,none⟩)] w (Zz w q c r K L (Vf 5 L n 0 0 st).2 (Vf 5 L n 0 0 st).1.ds):=by
 have qin:=h.whole.inside;have cin:=h.cin;have rin:=h.rin;have nb:=Za w (.cells #[.string ⟨#[]⟩,.int .i64 0,.int .i64 0,.int .i64 0,.int .i64 0,.slice none 0 0] 35);have nb2:=Za (w.alloc (.cells #[.string ⟨#[]⟩,.int .i64 0,.int .i64 0,.int .i64 0,.int .i64 0,.slice none 0 0] 35)) (.cells #[.string ⟨#[]⟩,.int .i64 0,.int .i64 0,.int .i64 0,.int .i64 0,.slice none 0 0] 35);have M0:=Hh (((Yc.start h).next nb).next nb2);have R0:=Hh (show Zb _ w.heap.size 35 ([.string ⟨#[]⟩,.int .i64 0,.int .i64 0,.int .i64 0,.int .i64 0,.slice none 0 0]).toArray from(Zb.made w 35 #[.string ⟨#[]⟩,.int .i64 0,.int .i64 0,.int .i64 0,.int .i64 0,.slice none 0 0]).alloc (.cells #[.string ⟨#[]⟩,.int .i64 0,.int .i64 0,.int .i64 0,.int .i64 0,.slice none 0 0] 35));have T0:=Hh (show Zb _ (w.heap.size+1) 35 ([.string ⟨#[]⟩,.int .i64 0,.int .i64 0,.int .i64 0,.int .i64 0,.slice none 0 0]).toArray from by have e:=Zb.made (w.alloc (.cells #[.string ⟨#[]⟩,.int .i64 0,.int .i64 0,.int .i64 0,.int .i64 0,.slice none 0 0] 35)) 35 #[.string ⟨#[]⟩,.int .i64 0,.int .i64 0,.int .i64 0,.int .i64 0,.slice none 0 0];rw[World.size_alloc]at e;exact e);clear nb nb2;have hcell:=M0.out.at_.cell;unfold Vf;have r1:=Vn L st;have h1:∀ w,PAt w q c r K L st→Calls Tryz.prog 176 #[.pointer (some ⟨q,0,none⟩),.func (.func 177) #[Xn c st] #[]] w (Zv w q c r K L (Xk L st) (.string (Jx L st))):=fun w h=>Zfl w q c r K L st h
 generalize Jx L st=nm at *;generalize Xk L st=s1 at *;have r2:=Yv L Zah s1;have h2:∀ w,PAt w q c r K L s1→Calls Tryz.prog 178 #[.pointer (some ⟨q,0,none⟩),.string ⟨#[99,111,115,116]⟩] w (Zv w q c r K L (Yg L Zah s1) (.tuple #[])):=fun w h=>Zcv w q c r K L _ Zah h
 generalize Yg L Zah s1=s2 at *;have r3:=Zck L s2;have h3:∀ w,PAt w q c r K L s2→Calls Tryz.prog 179 #[.pointer (some ⟨q,0,none⟩),.func (.func 180) #[Xn c s2] #[]] w (Zv w q c r K L (Zbk L s2) (.int .i64 (Zdh L s2))):=fun w h=>Zgx w q c r K L s2 h
 generalize Zdh L s2=co at *;generalize Zbk L s2=s3 at *;have r4:=Yv L Zal s3;have h4:∀ w,PAt w q c r K L s3→Calls Tryz.prog 178 #[.pointer (some ⟨q,0,none⟩),.string ⟨#[112,111,119,101,114]⟩] w (Zv w q c r K L (Yg L Zal s3) (.tuple #[])):=fun w h=>Zcv w q c r K L _ Zal h
 generalize Yg L Zal s3=s4 at *;have r5:=Zda L s4;have h5:∀ w,PAt w q c r K L s4→Calls Tryz.prog 179 #[.pointer (some ⟨q,0,none⟩),.func (.func 181) #[Xn c s4] #[]] w (Zv w q c r K L (Jb L s4) (.int .i64 (Js L s4))):=fun w h=>Zch w q c r K L s4 h
 generalize Js L s4=pw at *;generalize Jb L s4=s5 at *;have h6:∀ w,PAt w q c r K L s5→Calls Tryz.prog 182 #[.pointer (some ⟨q,0,none⟩)] w (Zac w q c r K L (Vx 5 L n s5).2 (Vx 5 L n s5).1.length (rusDs (Vx 5 L n s5).1)):=fun w h=>xrules n w q c r K L s5 h (by omega) (by omega)
 generalize Vx 5 L n s5=x6 at *;clear h hn hLn r1 r2 r3 r4 r5;go_enter Tryz.func137,Tryz.ntmps137;go_wp2_with(first
 |(go_at_call 176;refine(h1 _ M0.out.at_).mono ?_;rintro e w1 ⟨rfl,m1⟩
   have R1:=Hh (m1.keeps.whole R0.out (by omega));have T1:=Hh (m1.keeps.whole T0.out (by omega));have M1:=Hh (M0.out.then m1);have hz1:w.heap.size+2≤w1.heap.size:=by have:=m1.keeps.size;(try simp at this);omega
   have hcell:=M1.out.at_.cell;clear m1)
 |((with_reducible refine at_st 11 10 ?_);refine wpList_store1 9 _ _ 35 (w.heap.size+1) 0 [] (.string ⟨#[]⟩) (.string nm) ([.int .i64 0,.int .i64 0,.int .i64 0,.int .i64 0,.slice none 0 0]) (show Zb _ _ _ _ from T1.out) rfl Zha rfl rfl rfl rfl rfl rfl ?_
   intro w2 p2;have T2:=Hh (show Zb w2 (w.heap.size+1) 35 ([.string nm,.int .i64 0,.int .i64 0,.int .i64 0,.int .i64 0,.slice none 0 0]).toArray from by first | exact p2.whole | simpa using p2.whole);have R2:=Hh (p2.keeps.whole R1.out (by omega));have M2:=Hh (M1.out.put p2 (by omega) qin cin rin);have hz2:=Nat.le_trans hz1 p2.keeps.size;have hcell:=M2.out.at_.cell;clear p2)
 |(go_at_call 178;(with_reducible refine(h2 _ ?_).mono ?_);exact M2.out.at_;rintro e w3 ⟨rfl,m3⟩
   have R3:=Hh (m3.keeps.whole R2.out (by omega));have T3:=Hh (m3.keeps.whole T2.out (by omega));have M3:=Hh (M2.out.then m3);have hz3:=Nat.le_trans hz2 m3.keeps.size;have hcell:=M3.out.at_.cell;clear m3)
 |(go_at_call 179;(with_reducible refine(h3 _ ?_).mono ?_);exact M3.out.at_;rintro e w4 ⟨rfl,m4⟩
   have R4:=Hh (m4.keeps.whole R3.out (by omega));have T4:=Hh (m4.keeps.whole T3.out (by omega));have M4:=Hh (M3.out.then m4);have hz4:=Nat.le_trans hz3 m4.keeps.size;have hcell:=M4.out.at_.cell;clear m4)
 |((with_reducible refine at_st 21 20 ?_);refine wpList_store1 3 _ _ 35 (w.heap.size+1) 1 [.string nm] (.int .i64 0) (.int .i64 co) ([.int .i64 0,.int .i64 0,.int .i64 0,.slice none 0 0]) (show Zb _ _ _ _ from T4.out) rfl Yo rfl rfl rfl rfl rfl rfl ?_
   intro w5 p5;have T5:=Hh (show Zb w5 (w.heap.size+1) 35 ([.string nm,.int .i64 co,.int .i64 0,.int .i64 0,.int .i64 0,.slice none 0 0]).toArray from by first | exact p5.whole | simpa using p5.whole);have R5:=Hh (p5.keeps.whole R4.out (by omega));have M5:=Hh (M4.out.put p5 (by omega) qin cin rin);have hz5:=Nat.le_trans hz4 p5.keeps.size;have hcell:=M5.out.at_.cell;clear p5)
 |(go_at_call 178;(with_reducible refine(h4 _ ?_).mono ?_);exact M5.out.at_;rintro e w6 ⟨rfl,m6⟩
   have R6:=Hh (m6.keeps.whole R5.out (by omega));have T6:=Hh (m6.keeps.whole T5.out (by omega));have M6:=Hh (M5.out.then m6);have hz6:=Nat.le_trans hz5 m6.keeps.size;have hcell:=M6.out.at_.cell;clear m6)
 |(go_at_call 179;(with_reducible refine(h5 _ ?_).mono ?_);exact M6.out.at_;rintro e w7 ⟨rfl,m7⟩
   have R7:=Hh (m7.keeps.whole R6.out (by omega));have T7:=Hh (m7.keeps.whole T6.out (by omega));have M7:=Hh (M6.out.then m7);have hz7:=Nat.le_trans hz6 m7.keeps.size;have hcell:=M7.out.at_.cell;clear m7)
 |((with_reducible refine at_st 31 30 ?_);refine wpList_store1 3 _ _ 35 (w.heap.size+1) 2 [.string nm,.int .i64 co] (.int .i64 0) (.int .i64 pw) ([.int .i64 0,.int .i64 0,.slice none 0 0]) (show Zb _ _ _ _ from T7.out) rfl Yo rfl rfl rfl rfl rfl rfl ?_
   intro w8 p8;have T8:=Hh (show Zb w8 (w.heap.size+1) 35 ([.string nm,.int .i64 co,.int .i64 pw,.int .i64 0,.int .i64 0,.slice none 0 0]).toArray from by first | exact p8.whole | simpa using p8.whole);have R8:=Hh (p8.keeps.whole R7.out (by omega));have M8:=Hh (M7.out.put p8 (by omega) qin cin rin);have hz8:=Nat.le_trans hz7 p8.keeps.size;have hcell:=M8.out.at_.cell;clear p8)
 |(go_at_call 182;refine(h6 _ M8.out.at_).mono ?_;rintro e w9 ⟨av,rfl,d9,m9⟩
   have R9:=Hh (m9.keeps.whole R8.out (by omega));have T9:=Hh (m9.keeps.whole T8.out (by omega));have M9:=Hh (M8.out.then m9);have hz9:=Nat.le_trans hz8 m9.keeps.size;have hcell:=M9.out.at_.cell;have A9:=Hh (d9.lower (show w.heap.size+2≤_ by first | omega | (simp;done) | (simp;omega)));obtain⟨Aa,Ac,rfl⟩:=A9.out.slice;clear m9 d9)
 |((with_reducible refine at_st 34 33 ?_);refine wpList_store1 33 _ _ 35 (w.heap.size+1) 5 [.string nm,.int .i64 co,.int .i64 pw,.int .i64 0,.int .i64 0] (.slice none 0 0) (.slice Aa x6.1.length Ac) ([]) (show Zb _ _ _ _ from T9.out) rfl size_rus rfl rfl rfl rfl rfl rfl ?_
   intro w10 p10;have T10:=Hh (show Zb w10 (w.heap.size+1) 35 ([.string nm,.int .i64 co,.int .i64 pw,.int .i64 0,.int .i64 0,.slice Aa x6.1.length Ac]).toArray from by first | exact p10.whole | simpa using p10.whole);have R10:=Hh (p10.keeps.whole R9.out (by omega));have A10:=Hh (A9.out.put p10 (by omega));have M10:=Hh (M9.out.put p10 (by omega) qin cin rin);have hz10:=Nat.le_trans hz9 p10.keeps.size;have hcell:=M10.out.at_.cell;clear p10)
 |((with_reducible refine at_ld 35 ?_);refine wpList_loadW 35 _ 35 (w.heap.size+1) _ T10.out row_ca Zkf rfl rfl rfl ?_)
 |((with_reducible refine at_st 2 35 ?_);refine wpList_storeW 35 _ _ 35 (w.heap.size) _ ([.string nm,.int .i64 co,.int .i64 pw,.int .i64 0,.int .i64 0,.slice Aa x6.1.length Ac]) R10.out rfl Zkf (by simp[Value.oneCell']) rfl rfl rfl rfl rfl ?_
   intro w11 p11;have R11:=Hh p11.whole;have T11:=Hh (p11.keeps.whole T10.out (by omega));have A11:=Hh (A10.out.put p11 (by omega));have M11:=Hh (M10.out.put p11 (by omega) qin cin rin);have hz11:=Nat.le_trans hz10 p11.keeps.size;have hcell:=M11.out.at_.cell;clear p11))
 exact Zj 2 35 35 w.heap.size _ rfl R11.out row_ca Zkf rfl rfl ⟨_,rfl,⟨_,rfl,_,rfl,_,rfl,_,rfl,_,rfl,A11.out.lower (by omega)⟩,M11.out⟩
theorem xplace(w:World)(q c r K:Nat)(L:List TokV)(st:St)(n:Nat)(h:PAt w q c r K L st)(hn:8*Zk L st+9≤n)(hLn:Zk L st≤68719476736) :
  Calls Tryz.prog 138 #[.pointer (some ⟨q,0,none⟩)] w (Zz w q c r K L (Wc 5 L n 0 0 st).2 (Wc 5 L n 0 0 st).1.ds):=by
 have qin:=h.whole.inside;have cin:=h.cin;have rin:=h.rin;have nb:=Za w (.cells #[.string ⟨#[]⟩,.int .i64 0,.int .i64 0,.slice none 0 0] 38);have nb2:=Za (w.alloc (.cells #[.string ⟨#[]⟩,.int .i64 0,.int .i64 0,.slice none 0 0] 38)) (.cells #[.string ⟨#[]⟩,.int .i64 0,.int .i64 0,.slice none 0 0] 38);have M0:=Hh (((Yc.start h).next nb).next nb2);have R0:=Hh (show Zb _ w.heap.size 38 ([.string ⟨#[]⟩,.int .i64 0,.int .i64 0,.slice none 0 0]).toArray from(Zb.made w 38 #[.string ⟨#[]⟩,.int .i64 0,.int .i64 0,.slice none 0 0]).alloc (.cells #[.string ⟨#[]⟩,.int .i64 0,.int .i64 0,.slice none 0 0] 38));have T0:=Hh (show Zb _ (w.heap.size+1) 38 ([.string ⟨#[]⟩,.int .i64 0,.int .i64 0,.slice none 0 0]).toArray from by have e:=Zb.made (w.alloc (.cells #[.string ⟨#[]⟩,.int .i64 0,.int .i64 0,.slice none 0 0] 38)) 38 #[.string ⟨#[]⟩,.int .i64 0,.int .i64 0,.slice none 0 0];rw[World.size_alloc]at e;exact e);clear nb nb2;have hcell:=M0.out.at_.cell;unfold Wc;have r1:=Vn L st;have h1:∀ w,PAt w q c r K L st→Calls Tryz.prog 176 #[.pointer (some ⟨q,0,none⟩),.func (.func 177) #[Xn c st] #[]] w (Zv w q c r K L (Xk L st) (.string (Jx L st))):=fun w h=>Zfl w q c r K L st h
 generalize Jx L st=nm at *;generalize Xk L st=s1 at *;have h6:∀ w,PAt w q c r K L s1→Calls Tryz.prog 182 #[.pointer (some ⟨q,0,none⟩)] w (Zac w q c r K L (Vx 5 L n s1).2 (Vx 5 L n s1).1.length (rusDs (Vx 5 L n s1).1)):=fun w h=>xrules n w q c r K L s1 h (by omega) (by omega)
 generalize Vx 5 L n s1=x6 at *;clear h hn hLn r1;go_enter Tryz.func138,Tryz.ntmps138;go_wp2_with(first
 |(go_at_call 176;refine(h1 _ M0.out.at_).mono ?_;rintro e w1 ⟨rfl,m1⟩
   have R1:=Hh (m1.keeps.whole R0.out (by omega));have T1:=Hh (m1.keeps.whole T0.out (by omega));have M1:=Hh (M0.out.then m1);have hz1:w.heap.size+2≤w1.heap.size:=by have:=m1.keeps.size;(try simp at this);omega
   have hcell:=M1.out.at_.cell;clear m1)
 |((with_reducible refine at_st 11 10 ?_);refine wpList_store1 9 _ _ 38 (w.heap.size+1) 0 [] (.string ⟨#[]⟩) (.string nm) ([.int .i64 0,.int .i64 0,.slice none 0 0]) (show Zb _ _ _ _ from T1.out) rfl Zha rfl rfl rfl rfl rfl rfl ?_
   intro w2 p2;have T2:=Hh (show Zb w2 (w.heap.size+1) 38 ([.string nm,.int .i64 0,.int .i64 0,.slice none 0 0]).toArray from by first | exact p2.whole | simpa using p2.whole);have R2:=Hh (p2.keeps.whole R1.out (by omega));have M2:=Hh (M1.out.put p2 (by omega) qin cin rin);have hz2:=Nat.le_trans hz1 p2.keeps.size;have hcell:=M2.out.at_.cell;clear p2)
 |(go_at_call 182;refine(h6 _ M2.out.at_).mono ?_;rintro e w3 ⟨av,rfl,d3,m3⟩
   have R3:=Hh (m3.keeps.whole R2.out (by omega));have T3:=Hh (m3.keeps.whole T2.out (by omega));have M3:=Hh (M2.out.then m3);have hz3:=Nat.le_trans hz2 m3.keeps.size;have hcell:=M3.out.at_.cell;have A3:=Hh (d3.lower (show w.heap.size+2≤_ by first | omega | (simp;done) | (simp;omega)));obtain⟨Aa,Ac,rfl⟩:=A3.out.slice;clear m3 d3)
 |((with_reducible refine at_st 14 13 ?_);refine wpList_store1 33 _ _ 38 (w.heap.size+1) 3 [.string nm,.int .i64 0,.int .i64 0] (.slice none 0 0) (.slice Aa x6.1.length Ac) ([]) (show Zb _ _ _ _ from T3.out) rfl size_rus rfl rfl rfl rfl rfl rfl ?_
   intro w4 p4;have T4:=Hh (show Zb w4 (w.heap.size+1) 38 ([.string nm,.int .i64 0,.int .i64 0,.slice Aa x6.1.length Ac]).toArray from by first | exact p4.whole | simpa using p4.whole);have R4:=Hh (p4.keeps.whole R3.out (by omega));have A4:=Hh (A3.out.put p4 (by omega));have M4:=Hh (M3.out.put p4 (by omega) qin cin rin);have hz4:=Nat.le_trans hz3 p4.keeps.size;have hcell:=M4.out.at_.cell;clear p4)
 |((with_reducible refine at_ld 15 ?_);refine wpList_loadW 38 _ 38 (w.heap.size+1) _ T4.out row_pl Zke rfl rfl rfl ?_)
 |((with_reducible refine at_st 2 15 ?_);refine wpList_storeW 38 _ _ 38 (w.heap.size) _ ([.string nm,.int .i64 0,.int .i64 0,.slice Aa x6.1.length Ac]) R4.out rfl Zke (by simp[Value.oneCell']) rfl rfl rfl rfl rfl ?_
   intro w5 p5;have R5:=Hh p5.whole;have T5:=Hh (p5.keeps.whole T4.out (by omega));have A5:=Hh (A4.out.put p5 (by omega));have M5:=Hh (M4.out.put p5 (by omega) qin cin rin);have hz5:=Nat.le_trans hz4 p5.keeps.size;have hcell:=M5.out.at_.cell;clear p5))
 exact Zj 2 38 38 w.heap.size _ rfl R5.out row_pl Zke rfl rfl ⟨_,rfl,⟨_,rfl,_,rfl,_,rfl,A5.out.lower (by omega)⟩,M5.out⟩
end Go.Proofs.YtljdgdphldckhaaGreat
