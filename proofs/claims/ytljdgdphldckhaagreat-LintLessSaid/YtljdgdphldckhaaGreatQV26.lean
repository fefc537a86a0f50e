/-
  No conditions but those that each theorem names.
-/
import Derived.Test.YtljdgdphldckhaaGreatQV25
set_option maxRecDepth 20000
set_option maxHeartbeats 12800000
namespace Go.Proofs.YtljdgdphldckhaaGreat
open Go Go.RowKit
set_option linter.unusedVariables false
set_option linter.unusedSimpArgs false
def lCheck(f:Fi):Fa:=orF (Uy (Wt (Yd (f.cards.map Ca.name))) 0 f.cards) (Vl (Wt (Yd (f.places.map Pl.name))) 0 f.places)
theorem lCheck_any(f:Fi)(hc:f.cards.length≤1000000)(hp:f.places.length≤1000000)(w:World)(N:Nat→Prop)(vs:List Value)(h:Deep N w f.ds vs) :
  Calls Tryz.prog 32 #[.agg vs.toArray] w fun e w'=>e=.returned (faV (lCheck f))∧Below w.heap.size w w':=by
 obtain⟨cards,places⟩:=f;obtain⟨A,ca,xs,_,rfl,n1,w1,d1,B,pb,ys,_,rfl,n2,w2,d2,rfl⟩:=h;have hcs:Deep N w (.row cards.length (casDs cards) .nil) [.slice A cards.length ca]:=⟨A,ca,xs,[],rfl,n1,w1,d1,rfl⟩
 have hps:Deep N w (.row places.length (plsDs places) .nil) [.slice B places.length pb]:=⟨B,pb,ys,[],rfl,n2,w2,d2,rfl⟩
 have hC:=fun x (hb:Below w.heap.size w x)=>lListedC cards hc x N _ (hcs.below hb)
 have hP:=fun x (hb:Below w.heap.size w x)=>lListedP places hp x N _ (hps.below hb)
 unfold lCheck;dsimp only at *;generalize Uy (Wt (Yd (cards.map Ca.name))) 0 cards=F at *;generalize Vl (Wt (Yd (places.map Pl.name))) 0 places=G at *;generalize cards.length=cn at *;generalize places.length=pn at *;rw[←orF2];have hof:=fun x g (hW:Zb x g 29 ([F,G].flatMap faL).toArray)=>lOrF [F,G] 2 2 g x rfl (by omega) hW
 generalize Ve [F,G]=R at *;clear hcs hps n1 n2 w1 w2 d1 d2 hc hp;have T:=Hh (Env.start w);go_enter Tryz.func32,Tryz.ntmps32;go_upto_region 3 with(first
 |((with_reducible refine at_ld 1 ?_);refine Ze T.out 26 _ ([.slice A cn ca,.slice B pn pb]) rfl rfl rfl ?_;intro wa g0 tn;have T:=Hh tn;clear tn)
 |((with_reducible refine at_ld 2 ?_);refine wpList_allocE T.out 29 _ rfl rfl Uv ?_;intro wb g1 tn;have T:=Hh tn;clear tn))
 have h2:=T.out.drew;refine wp_region_held_drew (S:=fun x=>Zb x g0 26 ([.slice A cn ca,.slice B pn pb]:List Value).toArray∧Below w.heap.size w x) (by kernel_rfl) ⟨h2.get 0 rfl,h2.below⟩ (fun hS=>?_);generalize wb.drew=wf at *;refine Yi (i:=0) (v:=.pointer (some ⟨g0,0,none⟩)) rfl rfl (by kernel_rfl) (by kernel_rfl) (by kernel_rfl) (fun _ _ _ h=>h) (Or.inl ⟨by rfl,fun y hy=>by go_simp⟩) hS ?_;try simp only[Qy,Qx]
 refine Yi (i:=1) (v:=.slice A cn ca) rfl rfl (by kernel_rfl) (by kernel_rfl) (by kernel_rfl) (fun _ _ _ h=>h) (Or.inl ⟨by rfl,fun y hy=>by have c0:=hy.1.read 0;go_simp⟩) hS ?_;try simp only[Qy,Qx]
 refine Yi (i:=2) (v:=.func (.func 86) #[] #[]) rfl rfl (by kernel_rfl) (by kernel_rfl) (by kernel_rfl) (fun _ _ _ h=>h) (Zbq rfl rfl rfl) hS ?_;try simp only[Qy,Qx]
 refine Yi (i:=4) (v:=.pointer (some ⟨g0,1,none⟩)) rfl rfl (by kernel_rfl) (by kernel_rfl) (by kernel_rfl) (fun _ _ _ h=>h) (Or.inl ⟨by rfl,fun y hy=>by go_simp⟩) hS ?_;try simp only[Qy,Qx]
 refine Yi (i:=5) (v:=.slice B pn pb) rfl rfl (by kernel_rfl) (by kernel_rfl) (by kernel_rfl) (fun _ _ _ h=>h) (Or.inl ⟨by rfl,fun y hy=>by have c0:=hy.1.read 1;go_simp⟩) hS ?_;try simp only[Qy,Qx]
 refine Yi (i:=6) (v:=.func (.func 87) #[] #[]) rfl rfl (by kernel_rfl) (by kernel_rfl) (by kernel_rfl) (fun _ _ _ h=>h) (Zbq rfl rfl rfl) hS ?_;try simp only[Qy,Qx]
 refine wpAnyH_ready (rs:=[3]) (by kernel_rfl) (by simp) (AllReadyH.cons rfl (fun K hK=>?_) AllReadyH.nil);go_simp;go_at_call 89
 refine(hC _ h2.below).mono ?_;rintro e wf ⟨rfl,bn⟩;try simp only[faV]
 try go_wp2
 have h2:=h2.call bn;refine hK.out _ _ ⟨h2.get 0 rfl,h2.below⟩ (fun _=>?_);clear hK K bn;try simp only[Act.put,Qz,Qy,Qx]
 refine wpAnyH_ready (rs:=[7]) (by kernel_rfl) (by simp) (AllReadyH.cons rfl (fun K hK=>?_) AllReadyH.nil);go_simp;go_at_call 90
 refine(hP _ h2.below).mono ?_;rintro e wf ⟨rfl,bn⟩;try simp only[faV]
 try go_wp2
 have h2:=h2.call bn;refine hK.out _ _ ⟨h2.get 0 rfl,h2.below⟩ (fun _=>?_);clear hK K bn;try simp only[Act.put,Qz,Qy,Qx]
 refine wpAnyH_ready (rs:=[8]) (by kernel_rfl) (by simp) (AllReadyH.cons rfl (fun K hK=>?_) AllReadyH.nil);go_simp;have hWb:Zb (World.alloc wf (.cells #[.int .i64 F.1,.int .i64 F.2.1,.int .i64 F.2.2,.int .i64 G.1,.int .i64 G.2.1,.int .i64 G.2.2] 29)) wf.heap.size 29 ([F,G].flatMap faL).toArray:=Zb.made _ _ _;have hnb:=Za wf (.cells #[.int .i64 F.1,.int .i64 F.2.1,.int .i64 F.2.2,.int .i64 G.1,.int .i64 G.2.1,.int .i64 G.2.2] 29);have h2:=h2.call hnb;generalize World.alloc wf (.cells #[.int .i64 F.1,.int .i64 F.2.1,.int .i64 F.2.2,.int .i64 G.1,.int .i64 G.2.1,.int .i64 G.2.2] 29)=wf at *;refine hK.out _ _ ⟨h2.get 0 rfl,h2.below⟩ (fun _=>?_);clear hK K hnb;try simp only[Act.put,Qz,Qy,Qx]
 refine wpAnyH_ready (rs:=[9]) (by kernel_rfl) (by simp) (AllReadyH.cons rfl (fun K hK=>?_) AllReadyH.nil);go_simp;go_at_call 88
 refine(hof _ _ hWb).mono ?_;rintro e wf ⟨rfl,bn⟩;try simp only[faV]
 try go_wp2
 have h2:=h2.call bn;refine hK.out _ _ ⟨h2.get 0 rfl,h2.below⟩ (fun _=>?_);clear hK K bn;try simp only[Act.put,Qz,Qy,Qx]
 refine wpAnyH_ready (rs:=[10]) (by kernel_rfl) (by simp) (AllReadyH.cons rfl (fun K hK=>?_) AllReadyH.nil);obtain⟨e0,e1,e2,z0,z1,z2⟩:=Zl (h2.get 1 rfl);go_simp;have h5:=(show Env w [_,_] [] [] _ from h2.put 1 rfl (Zew (h2.get 1 rfl) (.int .i64 R.1) (.int .i64 R.2.1) (.int .i64 R.2.2)))
 refine hK.out _ _ ⟨h5.get 0 rfl,h5.below⟩ (fun hS=>?_);clear hK K;try simp only[Act.put,Qz,Qy,Qx]
 refine wpAnyH_done (by kernel_rfl) ?_ _;go_wp2
 exact Zj 2 29 29 g1 _ rfl (h5.get 1 rfl) Zw Zf rfl rfl ⟨rfl,h5.below⟩
open Go
def TokSim(pl:Bool)(u v:TokV):Prop:=u.k=v.k∧u.t=v.t∧u.n=v.n∧(pl=true→u.line=v.line∧u.col=v.col)
structure RowSim(pl:Bool)(L M:List TokV):Prop where
 len:L.length=M.length
 tok:∀ a,TokSim pl (Zp L a) (Zp M a)
def FltSim(pl:Bool)(F G:Int×Nat×Nat):Prop:=F.1=G.1∧(pl=true→F=G)
def StSim(pl:Bool):St→St→Prop
 |.ok a d,.ok b e=>a=b∧d=e
 |.bad F,.bad G=>FltSim pl F G
 |_,_=>False
theorem StSim.good{pl:Bool}:∀{s t:St},StSim pl s t→s.good=t.good
 |.ok _ _,.ok _ _,_=>rfl
 |.bad _,.bad _,_=>rfl
section
variable {pl:Bool} {L M:List TokV} (h:RowSim pl L M)
include h
end
theorem Wr{L:List TokV}{t:ByteArray}:∀{s:St},(Yg L t s).good=true→s.good=true
 |.ok a d,_=>rfl
 |.bad F,h=>h
theorem Um{L:List TokV}{ws:List ByteArray}:∀{s:St},(Yk L ws s).good=true→s.good=true
 |.ok a d,_=>rfl
 |.bad F,h=>h
theorem Zkp:∀{s:St},(upS s).good=true→s.good=true
 |.ok a d,_=>rfl
 |.bad F,h=>h
theorem filters_stop0(nk:Int)(L:List TokV)(n:Nat)(F:Int×Nat×Nat):Yp nk L (n+1) (.bad F)=([],.bad F):=by rw[Yp];exact if_pos rfl
theorem Zhs{nk:Int}{L:List TokV}:∀{n:Nat}{s:St},(Yp nk L n s).2.good=true→s.good=true
 |_,.ok a d,_=>rfl
 |0,.bad F,h=>h
 |n+1,.bad F,h=>by rw[filters_stop0 nk L n F]at h;exact h
section
variable {pl:Bool} {L M:List TokV} (h:RowSim pl L M) (a b:Int)
include h
end
section
variable {nk:Int} {L:List TokV}
theorem Zfu:∀ n:Nat,(∀ F,(Ya nk L n (.bad F)).2=.bad F)∧(∀ e F,(Ug nk L n (e,.bad F)).2=.bad F)∧(∀ F,(Wp nk L n (.bad F)).2=.bad F)∧(∀ e F,(Uf nk L n (e,.bad F)).2=.bad F)∧(∀ F,(Wl nk L n (.bad F)).2=.bad F)
 |0=>⟨fun F=>rfl,fun e F=>rfl,fun F=>rfl,fun e F=>rfl,fun F=>rfl⟩
 |n+1=>by
  obtain⟨e1,e2,e3,e4,e5⟩:=Zfu n;refine⟨fun F=>?_,fun e F=>?_,fun F=>?_,fun e F=>?_,fun F=>?_⟩
  ·rw[Ya]
   have:Wp nk L n (.bad F)=((Wp nk L n (.bad F)).1,.bad F):=Prod.ext rfl (e3 F);rw[this];exact e2 _ F
  ·rw[Ug]
   show(if(0:Nat)=0 then(e,St.bad F)else _).2=_;rw[if_pos rfl]
  ·rw[Wp]
   have:Wl nk L n (.bad F)=((Wl nk L n (.bad F)).1,.bad F):=Prod.ext rfl (e5 F);rw[this];exact e4 _ F
  ·rw[Uf]
   show(if false=true then _ else(e,St.bad F)).2=_;rw[if_neg Bool.false_ne_true]
  ·rw[Wl]
   have h1:¬ isS L Ue (.bad F)=true:=Bool.false_ne_true;have h2:Zd L Yu (.bad F)=0:=rfl;rw[if_neg h1,if_pos h2];rfl
theorem Zdi{n:Nat}:∀{s:St},(Ya nk L n s).2.good=true→s.good=true
 |.ok a d,_=>rfl
 |.bad F,h=>by rw[(Zfu n).1 F]at h;exact h
theorem Zkq:∀{s:St},(toS L s).good=true→s.good=true
 |.ok a d,_=>rfl
 |.bad F,h=>h
end
def AHSim(pl:Bool)(x y:AH):Prop:=x = { y with line:=x.line,col:=x.col }∧(pl=true→x.line=y.line∧x.col=y.col)
section
variable {pl:Bool} {L M:List TokV} (h:RowSim pl L M) (a b:Int)
include h
end
def AcsSim(pl:Bool):Acs→Acs→Prop
 |.nil,.nil=>True
 |.cons h t e r,.cons h' t' e' r'=>AHSim pl h h'∧AcsSim pl t t'∧AcsSim pl e e'∧AcsSim pl r r'
 |_,_=>False
theorem acts_bad{nk:Int}{L:List TokV}:∀(n:Nat)(F:Int×Nat×Nat),(Xc nk L n (.bad F)).2=.bad F
 |0,F=>rfl
 |n+1,F=>by
  have h2:Zd L Xs (.bad F)=0:=rfl;rw[Xc,if_pos h2]
theorem Zft{nk:Int}{L:List TokV}{n:Nat}:∀{s:St},(Xc nk L n s).2.good=true→s.good=true
 |.ok a d,_=>rfl
 |.bad F,h=>by rw[acts_bad n F]at h;exact h
theorem Zef{nk:Int}{L:List TokV}:∀{n:Nat}{s:St},(Yf nk L n s).2.good=true→s.good=true
 |_,.ok a d,_=>rfl
 |0,.bad F,h=>h
 |n+1,.bad F,h=>by
  rw[Yf]at h;have h1:=Zft (Wr (Zkp h));exact h1
theorem good_take{L:List TokV}{t:ByteArray}:∀{s:St},(Xf L t s).good=true→s.good=true
 |.ok a d,_=>rfl
 |.bad F,h=>h
section
variable {pl:Bool} {L M:List TokV} (h:RowSim pl L M) (a b:Int)
include h
end
theorem Zgt{nk:Int}{L:List TokV}:∀{n:Nat}{s:St},(Wn nk L n s).2.good=true→s.good=true
 |_,.ok a d,_=>rfl
 |0,.bad F,h=>h
 |n+1,.bad F,h=>by
  have h2:Zd L Yl (.bad F)=0:=rfl;rw[Wn,if_pos h2]at h;exact h
theorem good_body{nk:Int}{L:List TokV}{n:Nat}{s:St}(h:(Vx nk L n s).2.good=true):s.good=true:=Wr (Zgt (Wr h))
theorem good_file{nk:Int}{L:List TokV}:∀{n:Nat}{s:St},(Wd nk L n s).2.good=true→s.good=true
 |_,.ok a d,_=>rfl
 |0,.bad F,h=>h
 |n+1,.bad F,h=>by
  have h2:Zd L Xe (.bad F)=0:=rfl;rw[Wd,if_pos h2]at h;exact h
section
variable {pl:Bool} {L M:List TokV} (h:RowSim pl L M) (a b:Int)
include h
end
structure PT where
 k:Int
 t:ByteArray
 n:Int
def PT.v(p:PT):TokV:=⟨p.k,p.t,p.n,0,0,0⟩
theorem n1:(1:Int)≠0:=by decide
theorem n4:(4:Int)≠0:=by decide
def wd(ws:List ByteArray)(k:Int):ByteArray:=ws[k.toNat - 1]?.getD ⟨#[]⟩
def pw(ws:List ByteArray)(k:Int):PT:=⟨1,wd ws k,0⟩
section
variable {L:List TokV}
end
def Zel(s:ByteArray):Prop:=Zbf s=true∧(∀ x ∈ bL s,0≤x∧x<256∧x≠34)
def VFl(f:Fl):Prop:=
 ((f.kind=1∨f.kind=2)∧(1≤f.op∧f.op≤6)∧(-99≤f.n∧f.n≤99)∧f.name=⟨#[]⟩)∨(f.kind=3∧f.op=0∧f.n=0∧Zel f.name) ∨
   ((f.kind=4∨f.kind=5)∧f.op=0∧f.n=0∧f.name=⟨#[]⟩)
def VSe(s:Se):Prop:=
 ((s.kind=1∨s.kind=2)∧s.side=0∧s.wh=0∧s.lane=0∧s.fs=[]∧s.pick=0) ∨
   (s.kind=3∧(1≤s.side∧s.side≤3)∧(1≤s.wh∧s.wh≤4)∧(0≤s.lane∧s.lane≤99)∧(s.wh≠3→s.lane=0)∧(∀ f ∈ s.fs,VFl f)∧(1≤s.pick∧s.pick≤5))
section
variable {L:List TokV} {nk:Int}
def VTo(k l:Int):Prop:=((1≤k∧k≤3)∧l=0)∨(k=4∧0≤l∧l≤99)
end
def Ex.isBin:Ex→Bool
 |.leaf .. =>false
 |.bin .. =>true
def Ex.isSum:Ex→Bool
 |.leaf .. =>false
 |.bin o _ _=>decide (o<3)
def Zde(right:Bool)(op:Int)(x:Ex):Bool:=(decide (op=3) && x.isSum) || (right && x.isBin && (x.isSum || decide (op=3)))
theorem Ziw:∀{x:Ex},x.isSum=true→x.isBin=true
 |.leaf ..,h=>h
 |.bin ..,_=>rfl
theorem must_sum{op:Int}(h3:op≠3)(l r:Ex):Zde false op l=false∧Zde true op r=r.isSum:=by
 constructor
 ·unfold Zde;simp[h3]
 ·unfold Zde;simp[h3]
  exact Ziw
theorem must_times(l r:Ex):Zde false 3 l=l.isSum∧Zde true 3 r=r.isBin:=by
 constructor
 ·unfold Zde;simp
 ·unfold Zde;simp
  exact Ziw
def VLeaf(kind n:Int)(sel:Se)(side tk tl:Int):Prop:=
 (kind=1∧(-99≤n∧n≤99)∧sel=zSe∧side=0∧tk=0∧tl=0)∨((kind=2∨kind=3)∧n=0∧VSe sel∧side=0∧tk=0∧tl=0) ∨
   (kind=4∧n=0∧sel=zSe∧side=0∧tk=0∧tl=0)∨(kind=5∧n=0∧sel=zSe∧(1≤side∧side≤3)∧tk=0∧tl=0) ∨
   (kind=6∧n=0∧sel=zSe∧(1≤side∧side≤3)∧VTo tk tl)
def VEx:Ex→Prop
 |.leaf kind n sel side tk tl=>VLeaf kind n sel side tk tl
 |.bin op l r=>(1≤op∧op≤3)∧VEx l∧VEx r
def kD(b:Bool)(n:Nat):Nat:=if b=true then n+1 else n
def pD:Ex→Nat
 |.leaf .. =>0
 |.bin op l r=>max (kD (Zde false op l) (pD l)) (kD (Zde true op r) (pD r))
section
variable {L:List TokV} {nk:Int}
end
def Ziz(d:Nat)(h:AH):Prop:=
 ((h.kind=1∨h.kind=2∨h.kind=12)∧h = { AH.zero h.kind h.line h.col with sel:=h.sel,num:=h.num }∧VSe h.sel∧VEx h.num∧pD h.num+d≤8) ∨
 ((h.kind=3∨h.kind=5∨h.kind=14)∧h = { AH.zero h.kind h.line h.col with sel:=h.sel }∧VSe h.sel) ∨
 (h.kind=4∧h = { AH.zero h.kind h.line h.col with sel:=h.sel,tk:=h.tk,tl:=h.tl }∧VSe h.sel∧VTo h.tk h.tl) ∨
 (h.kind=6∧h = { AH.zero h.kind h.line h.col with name:=h.name,side:=h.side,tk:=h.tk,tl:=h.tl,num:=h.num }∧Zel h.name∧(1≤h.side∧h.side≤3)∧VTo h.tk h.tl∧VEx h.num∧pD h.num+d≤8) ∨
 ((h.kind=7∨h.kind=9)∧h = { AH.zero h.kind h.line h.col with side:=h.side,num:=h.num }∧(1≤h.side∧h.side≤3)∧VEx h.num∧pD h.num+d≤8) ∨
 (h.kind=8∧h = { AH.zero h.kind h.line h.col with side:=h.side,how:=h.how }∧(1≤h.side∧h.side≤3)∧(1≤h.how∧h.how≤4)) ∨
 ((h.kind=13∨h.kind=15)∧h = { AH.zero h.kind h.line h.col with side:=h.side,tk:=h.tk,tl:=h.tl }∧(1≤h.side∧h.side≤3)∧VTo h.tk h.tl)
def VCond(d:Nat)(h:AH):Prop:=h = { AH.zero 10 h.line h.col with cop:=h.cop,cl:=h.cl,cr:=h.cr }∧(1≤h.cop∧h.cop≤6)∧(VEx h.cl∧pD h.cl+d≤8)∧(VEx h.cr∧pD h.cr+d≤8)
def VEach(h:AH):Prop:=h = { AH.zero 11 h.line h.col with sel:=h.sel }∧VSe h.sel
def Zfi:Nat→Acs→Prop
 |_,.nil=>True
 |d,.cons h t e r=>((d<8∧VCond d h∧Zfi (d+1) t∧Zfi (d+1) e)∨(d<8∧VEach h∧Zfi (d+1) t∧e=.nil)∨(Ziz d h∧t=.nil∧e=.nil))∧Zfi d r
def Acs.isNil:Acs→Bool
 |.nil=>true
 |.cons .. =>false
theorem VCond.kind{d:Nat}{h:AH}(v:VCond d h):h.kind=10:=(congrArg AH.kind v.1 :)
theorem VEach.kind{h:AH}(v:VEach h):h.kind=11:=(congrArg AH.kind v.1 :)
theorem Ziz.kind{d:Nat}{h:AH}(v:Ziz d h):1≤h.kind∧h.kind≤15∧h.kind≠10∧h.kind≠11:=by
 rcases v with⟨k,_⟩ | ⟨k,_⟩ | ⟨k,_⟩ | ⟨k,_⟩ | ⟨k,_⟩ | ⟨k,_⟩ | ⟨k,_⟩<;>omega
section
variable {L:List TokV} {nk:Int}
theorem AHSim.any(h:AH)(l c:Int):AHSim false h { h with line:=l,col:=c }:=⟨rfl,fun hh=>by cases hh⟩
theorem AcsSim.isNil{pl:Bool}{x y:Acs}(h:AcsSim pl x y):x.isNil=y.isNil:=by
 cases x with
 |nil=>cases y with
  |nil=>rfl
  |cons h' t' e' r'=>exact h.elim
 |cons h' t' e' r'=>cases y with
  |nil=>exact h.elim
  |cons h' t' e' r'=>rfl
end
def VRu(r:Ru):Prop:=(1≤r.when_∧r.when_≤6)∧(0≤r.stratum∧r.stratum≤99)∧(r.when_≠5→r.stratum=0)∧Zfi 0 r.acts
def VCa(c:Ca):Prop:=Zel c.name∧(0≤c.cost∧c.cost≤99)∧(-99≤c.power∧c.power≤99)∧∀ r ∈ c.rules,VRu r
def VPl(p:Pl):Prop:=Zel p.name∧∀ r ∈ p.rules,VRu r
def VFi(f:Fi):Prop:=(∀ c ∈ f.cards,VCa c)∧∀ p ∈ f.places,VPl p
section
variable {L:List TokV} {nk:Int}
end
structure Xz(L:List TokV):Prop where
 int:∀ a,(Zp L a).k=2→0≤(Zp L a).n∧(Zp L a).n≤99
 name:∀ a,(Zp L a).k=3→Zel (Zp L a).t
def AtD(d:Nat)(st:St):Prop:=∃ a,st=.ok a d
theorem Zfr{F:Int×Nat×Nat}{a d:Nat}(h:(Vc F (.ok a d)).good=true):F.1=0∧Vc F (.ok a d)=.ok a d:=by
 have e:Vc F (.ok a d)=if F.1=0 then .ok a d else .bad F:=rfl
 rw[e]at h ⊢;by_cases h0:F.1=0
 ·rw[if_pos h0];exact⟨h0,rfl⟩
 ·rw[if_neg h0]at h;cases h
section
variable {L:List TokV} {nk:Int}
theorem Vs{ws:List ByteArray}{st:St}{d:Nat}(h:(Yk L ws st).good=true)(ha:AtD d st):AtD d (Yk L ws st)∧1≤(Zd L ws st:Int)∧(Zd L ws st:Int)≤ws.length:=by
 obtain⟨a,rfl⟩:=ha;unfold Yk at h ⊢;by_cases h0:Zd L ws (.ok a d)=0
 ·rw[if_pos h0]at h;cases h
 ·rw[if_neg h0]
  have h0':¬ Jk (Zp L a) ws=0:=h0;have hle:=Jg (Zp L a) ws;refine⟨⟨onA L a,?_⟩,?_,?_⟩
  ·show(if Jk (Zp L a) ws=0 then St.ok a d else .ok (onA L a) d)=_
   rw[if_neg h0']
  ·have:Zd L ws (.ok a d)=Jk (Zp L a) ws:=rfl
   omega
  ·have:Zd L ws (.ok a d)=Jk (Zp L a) ws:=rfl
   omega
theorem Zaa{ws:List ByteArray}{st:St}{d:Nat}(ha:AtD d st):AtD d (Zn L ws st):=by
 obtain⟨a,rfl⟩:=ha;show AtD d (if Jk (Zp L a) ws=0 then St.ok a d else .ok (onA L a) d);split
 ·exact⟨_,rfl⟩
 ·exact⟨_,rfl⟩
theorem take_at{t:ByteArray}{st:St}{d:Nat}(ha:AtD d st):AtD d (Xf L t st):=by
 obtain⟨a,rfl⟩:=ha;exact⟨_,rfl⟩
theorem Zaq{t:ByteArray}{st:St}{d:Nat}(h:(Yg L t st).good=true)(ha:AtD d st):AtD d (Yg L t st):=by
 unfold Yg at h ⊢;split at h
 ·rename_i h0;rw[if_pos h0];exact take_at ha
 ·obtain⟨a,rfl⟩:=ha;cases h
theorem int_at(hR:Xz L){st:St}{d:Nat}(h:(Zbk L st).good=true)(ha:AtD d st):AtD d (Zbk L st)∧0≤Zdh L st∧Zdh L st≤99:=by
 obtain⟨a,rfl⟩:=ha;obtain⟨h0,e⟩:=Zfr h
 have hk:(Zp L a).k=2:=by
  unfold Uk at h0;split at h0
  ·assumption
  ·exact absurd h0 (Zgi _)
 refine⟨⟨_,e⟩,?_⟩;have e2:Zdh L (.ok a d)=(Zp L a).n:=by show Zhp L a=_;unfold Zhp;rw[if_pos hk]
 rw[e2];exact hR.int a hk
theorem Zkk(hR:Xz L){st:St}{d:Nat}(h:(Xk L st).good=true)(ha:AtD d st):AtD d (Xk L st)∧Zel (Jx L st):=by
 obtain⟨a,rfl⟩:=ha;obtain⟨h0,e⟩:=Zfr h
 have hk:(Zp L a).k=3:=by
  unfold Uk at h0;split at h0
  ·assumption
  ·exact absurd h0 (Zgi _)
 refine⟨⟨_,e⟩,?_⟩;have e2:Jx L (.ok a d)=(Zp L a).t:=by show Zjk L a=_;unfold Zjk;rw[if_pos hk]
 rw[e2];exact hR.name a hk
theorem sign_at(hR:Xz L){st:St}{d:Nat}(h:(Jb L st).good=true)(ha:AtD d st):AtD d (Jb L st) ∧ -99≤Js L st∧Js L st≤99:=by
 obtain⟨a,rfl⟩:=ha;obtain⟨h0,e⟩:=Zfr h;refine⟨⟨_,e⟩,?_⟩;show -99≤Zgb L a∧Zgb L a≤99;unfold Zjg Uk at h0;unfold Zgb Zhp;by_cases hm:isT (Zp L a) minus=true
 ·rw[if_pos hm]at h0 ⊢
  by_cases hk:(Zp L (onA L a)).k=2
  ·rw[if_pos hk];have:=hR.int _ hk;omega
  ·rw[if_neg hk];omega
 ·rw[if_neg hm]at h0 ⊢
  by_cases hk:(Zp L a).k=2
  ·rw[if_pos hk];have:=hR.int _ hk;omega
  ·rw[if_neg hk];omega
theorem down_at{t:ByteArray}{st:St}{d:Nat}(h:(Vw L t st).good=true)(ha:AtD d st):AtD (d+1) (Vw L t st)∧d≠8:=by
 obtain⟨a,rfl⟩:=ha;unfold Vw at h ⊢;have hg:=Wr h;have hd:Zdo L t (.ok a d)=if isT (Zp L a) t=true then Vc (Zco L a d) (.ok a (Zcp d))else .ok a d:=rfl
 rw[hd]at h hg ⊢;by_cases ht:isT (Zp L a) t=true
 ·rw[if_pos ht]at h hg ⊢
  obtain⟨h0,e⟩:=Zfr hg
  have h8:d≠8:=by
   intro h8;unfold Zco at h0;rw[if_pos h8]at h0;exact absurd h0 (by simp)
  rw[e]at h ⊢;have e1:Zcp d=d+1:=by unfold Zcp;rw[if_neg h8]
  rw[e1]at h ⊢;exact⟨Zaq h ⟨_,rfl⟩,h8⟩
 ·rw[if_neg ht]at h
  unfold Yg at h;have:¬ isS L t (.ok a d)=true:=ht;rw[if_neg this]at h;cases h
theorem rise_at{t:ByteArray}{st:St}{d:Nat}(h:(Zcj L t st).good=true)(ha:AtD (d+1) st):AtD d (Zcj L t st):=by
 unfold Zcj at h ⊢;obtain⟨b,e⟩:=Zaq (Zkp h) ha;rw[e];exact⟨b,rfl⟩
theorem good_sign:∀{s:St},(Jb L s).good=true→s.good=true
 |.ok a d,_=>rfl
 |.bad F,h=>h
theorem Zhr:∀{s:St},(Zbk L s).good=true→s.good=true
 |.ok a d,_=>rfl
 |.bad F,h=>h
theorem filter_val(hR:Xz L){k:Nat}(hk:1≤k∧k≤4){st:St}{d:Nat}(h:(Xv nk L k st).2.good=true)(ha:AtD d st):AtD d (Xv nk L k st).2∧VFl (Xv nk L k st).1:=by
 unfold Xv at h ⊢;by_cases h12:k=1∨k=2
 ·rw[if_pos h12]at h ⊢
  have h':(Jb L (Yk L wOp st)).good=true:=h;obtain⟨a1,f1,f2⟩:=Vs (good_sign h') ha;obtain⟨a2,f3,f4⟩:=sign_at hR h' a1;exact⟨a2,.inl ⟨(by show(k:Int)=1∨(k:Int)=2;omega),⟨f1,f2⟩,⟨f3,f4⟩,rfl⟩⟩
 ·rw[if_neg h12]at h ⊢
  by_cases h3:k=3
  ·rw[if_pos h3]at h ⊢
   obtain⟨a1,f1⟩:=Zkk hR h ha;exact⟨a1,.inr (.inl ⟨rfl,rfl,rfl,f1⟩)⟩
  ·rw[if_neg h3]at h ⊢
   have h':(Yk L Jm st).good=true:=h;obtain⟨a1,f1,f2⟩:=Vs h' ha;have f2':(Zd L Jm st:Int)≤2:=f2;refine⟨a1,.inr (.inr ⟨?_,rfl,rfl,rfl⟩)⟩;dsimp only;rw[if_neg (by omega)];omega
theorem Zjr(hR:Xz L):∀(n:Nat)(st:St)(d:Nat),(Yp nk L n st).2.good=true→AtD d st→AtD d (Yp nk L n st).2∧∀ f ∈ (Yp nk L n st).1,VFl f
 |0,st,d,h,ha=>⟨ha,fun f hf=>by cases hf⟩
 |n+1,st,d,h,ha=>by
  rw[Yp]at h ⊢;by_cases h0:Zd L Yh st=0
  ·rw[if_pos h0];exact⟨ha,fun f hf=>by cases hf⟩
  ·rw[if_neg h0]at h ⊢
   dsimp only at h ⊢;have hle:Zd L Yh st≤4:=by obtain⟨a,rfl⟩:=ha;exact Jg (Zp L a) Yh
   have hg:=Zhs h;obtain⟨a1,v1⟩:=filter_val hR ⟨by omega,hle⟩ hg (Zaa ha);obtain⟨a2,v2⟩:=Zjr hR n _ d h a1;refine⟨a2,fun f hf=>?_⟩;rcases List.mem_cons.1 hf with rfl | hf
   ·exact v1
   ·exact v2 f hf
theorem where_val(hR:Xz L){st:St}{d:Nat}(h:(Zay L st).good=true)(ha:AtD d st) :
  AtD d (Zay L st)∧(1≤(Vy L st).1∧(Vy L st).1≤3)∧(1≤(Vy L st).2.1∧(Vy L st).2.1≤4)∧(0≤(Vy L st).2.2∧(Vy L st).2.2≤99)∧((Vy L st).2.1≠3→(Vy L st).2.2=0):=by
 unfold Zay at h ⊢;unfold Vy;dsimp only;by_cases h3:Zd L Ux (Yk L Zq st)=3
 ·rw[if_pos h3]at h ⊢
  have g1:=Zhr h;obtain⟨a1,f1⟩:=Vs (Um g1) ha;obtain⟨a2,f2⟩:=Vs g1 a1;obtain⟨a3,f3⟩:=int_at hR h a2;rw[if_pos h3];exact⟨a3,f1,f2,f3,fun hh=>by omega⟩
 ·rw[if_neg h3]at h ⊢
  obtain⟨a1,f1⟩:=Vs (Um h) ha;obtain⟨a2,f2⟩:=Vs h a1;rw[if_neg h3];exact⟨a2,f1,f2,by omega,fun _=>rfl⟩
theorem Zhc(hR:Xz L){n:Nat}{st:St}{d:Nat}(h:(Xy nk L n st).2.good=true)(ha:AtD d st):AtD d (Xy nk L n st).2∧VSe (Xy nk L n st).1:=by
 unfold Xy at h ⊢;by_cases h3:Zd L Zaz st=3
 ·rw[if_pos h3]at h ⊢
  dsimp only at h ⊢;have g1:=Wr h;have g2:=Zhs (Um g1)
  have g3:(Yk L Zaz st).good=true:=by
   unfold Zay at g2;split at g2
   ·exact Um (Um (Zhr g2))
   ·exact Um (Um g2)
  obtain⟨a1,_⟩:=Vs g3 ha;obtain⟨a2,f2,f3,f4,f5⟩:=where_val hR g2 a1;obtain⟨a3,f6⟩:=Zjr hR n _ d (Um g1) a2;obtain⟨a4,f7⟩:=Vs g1 a3;exact⟨Zaq h a4,.inr ⟨rfl,f2,f3,f4,f5,f6,f7⟩⟩
 ·rw[if_neg h3]at h ⊢
  obtain⟨a1,f1,f2⟩:=Vs h ha;have f2':(Zd L Zaz st:Int)≤3:=f2;refine⟨a1,.inl ⟨?_,rfl,rfl,rfl,rfl,rfl⟩⟩;dsimp only;omega
theorem to_val(hR:Xz L){st:St}{d:Nat}(h:(toS L st).good=true)(ha:AtD d st):AtD d (toS L st)∧VTo (toK L st) (toL L st):=by
 unfold toS at h ⊢;unfold toK toL;by_cases h4:Zd L wTo st=4
 ·rw[if_pos h4]at h ⊢
  obtain⟨a1,_⟩:=Vs (Zhr h) ha;obtain⟨a2,f⟩:=int_at hR h a1;rw[if_pos h4];exact⟨a2,.inr ⟨by omega,f⟩⟩
 ·rw[if_neg h4]at h ⊢
  obtain⟨a1,f1,f2⟩:=Vs h ha;have f2':(Zd L wTo st:Int)≤4:=f2;rw[if_neg h4];exact⟨a1,.inl ⟨by omega,rfl⟩⟩
def GE(d:Nat)(x:Ex):Prop:=VEx x∧pD x+d≤8
def GP(d:Nat)(x:Ex):Prop:=VEx x∧pD x+d≤8∧(x.isSum=true→pD x+1+d≤8)
def GF(d:Nat)(x:Ex):Prop:=VEx x∧pD x+d≤8∧(x.isBin=true→pD x+1+d≤8)
theorem GF.gp{d:Nat}{x:Ex}(h:GF d x):GP d x:=⟨h.1,h.2.1,fun hs=>h.2.2 (Ziw hs)⟩
theorem GP.ge{d:Nat}{x:Ex}(h:GP d x):GE d x:=⟨h.1,h.2.1⟩
theorem kd_bd{b:Bool}{n d:Nat}(h:n+d≤8)(h2:b=true→n+1+d≤8):kD b n+d≤8:=by
 unfold kD;split
 ·rename_i hb;have:=h2 hb;omega
 ·exact h
theorem ge_bin{d:Nat}{op:Int}{l r:Ex}(ho:1≤op∧op≤2)(hl:GE d l)(hr:GP d r):GE d (.bin op l r):=by
 obtain⟨m1,m2⟩:=must_sum (show op≠3 from by omega) l r;refine⟨⟨⟨ho.1,by omega⟩,hl.1,hr.1⟩,?_⟩;rw[pD,m1,m2];have:=kd_bd (b:=r.isSum) hr.2.1 hr.2.2;have h1:kD false (pD l)=pD l:=rfl;have:=hl.2;omega
theorem gp_bin{d:Nat}{l r:Ex}(hl:GP d l)(hr:GF d r):GP d (.bin 3 l r):=by
 obtain⟨m1,m2⟩:=must_times l r;refine⟨⟨by decide,hl.1,hr.1⟩,?_,fun h=>by cases h⟩;rw[pD,m1,m2];have:=kd_bd (b:=l.isSum) hl.2.1 hl.2.2;have:=kd_bd (b:=r.isBin) hr.2.1 hr.2.2;omega
theorem good_prodL{n:Nat}:∀{x:Ex×St},(Uf nk L n x).2.good=true→x.2.good=true
 |(e,.ok a d),_=>rfl
 |(e,.bad F),h=>by rw[(Zfu n).2.2.2.1 e F]at h;exact h
theorem good_exprL{n:Nat}:∀{x:Ex×St},(Ug nk L n x).2.good=true→x.2.good=true
 |(e,.ok a d),_=>rfl
 |(e,.bad F),h=>by rw[(Zfu n).2.1 e F]at h;exact h
theorem exprs_val(hR:Xz L):∀ n:Nat,
  (∀ st d,4*Zk L st+3≤n→d≤8→(Ya nk L n st).2.good=true→AtD d st→AtD d (Ya nk L n st).2∧GE d (Ya nk L n st).1) ∧
  (∀ x d,4*Zk L x.2≤n→d≤8→(Ug nk L n x).2.good=true→AtD d x.2→GE d x.1→AtD d (Ug nk L n x).2∧GE d (Ug nk L n x).1) ∧
  (∀ st d,4*Zk L st+2≤n→d≤8→(Wp nk L n st).2.good=true→AtD d st→AtD d (Wp nk L n st).2∧GP d (Wp nk L n st).1) ∧
  (∀ x d,4*Zk L x.2≤n→d≤8→(Uf nk L n x).2.good=true→AtD d x.2→GP d x.1→AtD d (Uf nk L n x).2∧GP d (Uf nk L n x).1) ∧
  (∀ st d,4*Zk L st+1≤n→d≤8→(Wl nk L n st).2.good=true→AtD d st→AtD d (Wl nk L n st).2∧GF d (Wl nk L n st).1)
 |0=>by
  refine⟨fun st d h=>by omega,fun x d _ _ _ ha hg=>⟨ha,hg⟩,fun st d h=>by omega,fun x d _ _ _ ha hg=>⟨ha,hg⟩,fun st d h=>by omega⟩
 |n+1=>by
  obtain⟨i1,i2,i3,i4,i5⟩:=exprs_val hR n;refine⟨fun st d hn hd h ha=>?_,fun x d hn hd h ha hg=>?_,fun st d hn hd h ha=>?_,fun x d hn hd h ha hg=>?_,fun st d hn hd h ha=>?_⟩
  ·rw[Ya]at h ⊢
   have r1:=Zdb L nk n st;obtain⟨a1,g1⟩:=i3 st d (by omega) hd (good_exprL h) ha;exact i2 _ d (by omega) hd h a1 g1.ge
  ·rw[Ug]at h ⊢
   by_cases h0:Zd L Zag x.2=0
   ·rw[if_pos h0];exact⟨ha,hg⟩
   ·rw[if_neg h0]at h ⊢
    have r1:=Wi L h0;have r2:=Zdb L nk n (Zn L Zag x.2);have hp:=good_exprL h;obtain⟨a1,g1⟩:=i3 _ d (by omega) hd hp (Zaa ha);have hle:Zd L Zag x.2≤2:=by obtain⟨a,e⟩:=ha;rw[e];exact Jg (Zp L a) Zag
    exact i2 _ d (by dsimp only;omega) hd h a1 (ge_bin ⟨by omega,by omega⟩ hg g1)
  ·rw[Wp]at h ⊢
   have r1:=Zdc L nk n st;obtain⟨a1,g1⟩:=i5 st d (by omega) hd (good_prodL h) ha;exact i4 _ d (by omega) hd h a1 g1.gp
  ·rw[Uf]at h ⊢
   by_cases h0:isS L Vi x.2=true
   ·rw[if_pos h0]at h ⊢
    have r1:=Zbu L h0;have r2:=Zdc L nk n (Xf L Vi x.2);have hp:=good_prodL h;obtain⟨a1,g1⟩:=i5 _ d (by omega) hd hp (take_at ha);exact i4 _ d (by dsimp only;omega) hd h a1 (gp_bin hg g1)
   ·rw[if_neg h0];exact⟨ha,hg⟩
  ·rw[Wl]at h ⊢
   have leaf0:∀{kind n':Int}{sel:Se}{side tk tl:Int},VLeaf kind n' sel side tk tl→GF d (.leaf kind n' sel side tk tl):=fun hv=>⟨hv,by rw[pD];omega,fun hh=>by cases hh⟩
   by_cases ho:isS L Ue st=true
   ·rw[if_pos ho]at h ⊢
    dsimp only at h ⊢;have r1:=Zgl L ho;have g0:=Wr (Zkp h);obtain⟨a1,h8⟩:=down_at (Zdi g0) ha;obtain⟨a2,g1⟩:=i1 _ (d+1) (by omega) (by omega) g0 a1;exact⟨rise_at h a2,g1.1,by have:=g1.2;omega,fun _=>by have:=g1.2;omega⟩
   ·rw[if_neg ho]at h ⊢
    by_cases h0:Zd L Yu st=0
    ·rw[if_pos h0]at h ⊢
     obtain⟨a1,f1⟩:=sign_at hR h ha;exact⟨a1,leaf0 (.inl ⟨rfl,f1,rfl,rfl,rfl,rfl⟩)⟩
    ·rw[if_neg h0]at h ⊢
     have hle:Zd L Yu st≤5:=by obtain⟨a,e⟩:=ha;rw[e];exact Jg (Zp L a) Yu
     by_cases h12:Zd L Yu st=1∨Zd L Yu st=2
     ·rw[if_pos h12]at h ⊢
      obtain⟨a1,f1⟩:=Zhc hR h (Zaa ha);exact⟨a1,leaf0 (.inr (.inl ⟨by omega,rfl,f1,rfl,rfl,rfl⟩))⟩
     ·rw[if_neg h12]at h ⊢
      by_cases h3:Zd L Yu st=3
      ·rw[if_pos h3];exact⟨Zaa ha,leaf0 (.inr (.inr (.inl ⟨rfl,rfl,rfl,rfl,rfl,rfl⟩)))⟩
      · rw[if_neg h3]at h ⊢
        by_cases h4:Zd L Yu st=4
        ·rw[if_pos h4]at h ⊢
         obtain⟨a1,f1⟩:=Vs h (Zaa ha);exact⟨a1,leaf0 (.inr (.inr (.inr (.inl ⟨rfl,rfl,rfl,f1,rfl,rfl⟩))))⟩
        ·rw[if_neg h4]at h ⊢
         obtain⟨a1,f1⟩:=Vs (Zkq h) (Zaa ha);obtain⟨a2,f2⟩:=to_val hR h a1;exact⟨a2,leaf0 (.inr (.inr (.inr (.inr ⟨rfl,rfl,rfl,f1,f2⟩))))⟩
theorem Zff(hR:Xz L){n:Nat}{st:St}{d:Nat}(hn:4*Zk L st+3≤n)(hd:d≤8)(h:(Ya nk L n st).2.good=true)(ha:AtD d st):AtD d (Ya nk L n st).2∧VEx (Ya nk L n st).1∧pD (Ya nk L n st).1+d≤8:=
 (exprs_val hR n).1 st d hn hd h ha
theorem plain_val(hR:Xz L){n k:Nat}{l c:Int}{st:St}{d:Nat}(hk:1≤k∧k≤15∧k≠10∧k≠11)(hn:4*Zk L st+3≤n)(hd:d≤8)(h:(Yq nk L n (AH.zero k l c) k st).2.good=true)(ha:AtD d st) :
  AtD d (Yq nk L n (AH.zero k l c) k st).2∧Ziz d (Yq nk L n (AH.zero k l c) k st).1:=by
 unfold Yq at h ⊢;unfold Ziz;by_cases c1:k=1∨k=2∨k=12
 ·rw[if_pos c1]at h ⊢
  dsimp only at h ⊢;have r:=Ur L nk n st;obtain⟨a1,f1⟩:=Zhc hR (Zdi h) ha;obtain⟨a2,f2⟩:=Zff hR (by omega) hd h a1;exact⟨a2,.inl ⟨by show((k:Int)=1∨(k:Int)=2∨(k:Int)=12);omega,rfl,f1,f2⟩⟩
 ·rw[if_neg c1]at h ⊢
  by_cases c2:k=3∨k=5∨k=14
  ·rw[if_pos c2]at h ⊢
   dsimp only at h ⊢;obtain⟨a1,f1⟩:=Zhc hR h ha;exact⟨a1,.inr (.inl ⟨by show((k:Int)=3∨(k:Int)=5∨(k:Int)=14);omega,rfl,f1⟩)⟩
  ·rw[if_neg c2]at h ⊢
   by_cases c3:k=4
   ·rw[if_pos c3]at h ⊢
    dsimp only at h ⊢;obtain⟨a1,f1⟩:=Zhc hR (Zkq h) ha;obtain⟨a2,f2⟩:=to_val hR h a1;exact⟨a2,.inr (.inr (.inl ⟨by show(k:Int)=4;omega,rfl,f1,f2⟩))⟩
   ·rw[if_neg c3]at h ⊢
    by_cases c4:k=6
    ·rw[if_pos c4]at h ⊢
     dsimp only at h ⊢;have g1:=Zdi h;have g2:=Zkq g1;have r1:=Zdv L (Yk L Zq (Xk L st));have r2:=Yt L Zq (Xk L st);have r3:=Vn L st;obtain⟨a1,f1⟩:=Zkk hR (Um g2) ha;obtain⟨a2,f2⟩:=Vs g2 a1;obtain⟨a3,f3⟩:=to_val hR g1 a2;obtain⟨a4,f4⟩:=Zff hR (by omega) hd h a3;exact⟨a4,.inr (.inr (.inr (.inl ⟨by show(k:Int)=6;omega,rfl,f1,f2,f3,f4⟩)))⟩
    ·rw[if_neg c4]at h ⊢
     by_cases c5:k=7∨k=9
     ·rw[if_pos c5]at h ⊢
      dsimp only at h ⊢;have r2:=Yt L Zq st;obtain⟨a2,f2⟩:=Vs (Zdi h) ha;obtain⟨a4,f4⟩:=Zff hR (by omega) hd h a2;exact⟨a4,.inr (.inr (.inr (.inr (.inl ⟨by show((k:Int)=7∨(k:Int)=9);omega,rfl,f2,f4⟩))))⟩
     ·rw[if_neg c5]at h ⊢
      by_cases c6:k=8
      ·rw[if_pos c6]at h ⊢
       dsimp only at h ⊢;obtain⟨a2,f2⟩:=Vs (Um h) ha;obtain⟨a3,f3⟩:=Vs h a2;exact⟨a3,.inr (.inr (.inr (.inr (.inr (.inl ⟨by show(k:Int)=8;omega,rfl,f2,f3⟩)))))⟩
      ·rw[if_neg c6]at h ⊢
       have c7:k=13∨k=15:=by omega
       rw[if_pos c7]at h ⊢;dsimp only at h ⊢;obtain⟨a2,f2⟩:=Vs (Zkq h) ha;obtain⟨a3,f3⟩:=to_val hR h a2;exact⟨a3,.inr (.inr (.inr (.inr (.inr (.inr ⟨by show((k:Int)=13∨(k:Int)=15);omega,rfl,f2,f3⟩)))))⟩
theorem cond_val(hR:Xz L){n:Nat}{l c:Int}{st:St}{d:Nat}(hn:4*Zk L st+3≤n)(hd:d≤8)(h:(Xb nk L n (AH.zero 10 l c) st).2.good=true)(ha:AtD d st) :
  AtD d (Xb nk L n (AH.zero 10 l c) st).2∧VCond d (Xb nk L n (AH.zero 10 l c) st).1:=by
 unfold Xb at h ⊢;dsimp only at h ⊢;have r1:=Zat L nk n st;have r2:=Yt L wOp (Ya nk L n st).2;have g1:=Zdi h;obtain⟨a1,f1⟩:=Zff hR hn hd (Um g1) ha;obtain⟨a2,f2⟩:=Vs g1 a1;obtain⟨a3,f3⟩:=Zff hR (by omega) hd h a2;exact⟨a3,rfl,f2,f1,f3⟩
def VAO(d:Nat)(x:AO):Prop:=(d<8∧VCond d x.h∧Zfi (d+1) x.thn∧Zfi (d+1) x.els)∨(d<8∧VEach x.h∧Zfi (d+1) x.thn∧x.els=.nil)∨(Ziz d x.h∧x.thn=.nil∧x.els=.nil)
theorem acts_val(hR:Xz L):∀ n:Nat,
  (∀ st d,4*Zk L st+1≤n→d≤8→(Xc nk L n st).2.good=true→AtD d st→AtD d (Xc nk L n st).2∧Zfi d (Xc nk L n st).1) ∧
  (∀(k:Nat)(l c:Int) st d,1≤k∧k≤15→4*Zk L st+4≤n→d≤8→(Ws nk L n (AH.zero k l c) k st).st.good=true→AtD d st →
    AtD d (Ws nk L n (AH.zero k l c) k st).st∧VAO d (Ws nk L n (AH.zero k l c) k st)) ∧
  (∀ st d,4*Zk L st+3≤n→d≤8→(Yf nk L n st).2.good=true→AtD d st→AtD d (Yf nk L n st).2∧Zfi (d+1) (Yf nk L n st).1∧d<8)
 |0=>⟨fun st d h=>by omega,fun k l c st d _ h=>by omega,fun st d h=>by omega⟩
 |n+1=>by
  obtain⟨i1,i2,i3⟩:=acts_val hR n;refine⟨fun st d hn hd h ha=>?_,fun k l c st d hk hn hd h ha=>?_,fun st d hn hd h ha=>?_⟩
  · rw[Xc]at h ⊢
    by_cases h0:Zd L Xs st=0
    ·rw[if_pos h0];exact⟨ha,trivial⟩
    ·rw[if_neg h0]at h ⊢
     dsimp only at h ⊢;have r1:=Wi L h0;have r2:=rem_act L nk n (AH.zero (Zd L Xs st) (st.tok L).line (st.tok L).col) (Zd L Xs st) (Zn L Xs st);have hle:Zd L Xs st≤15:=by obtain⟨a,e⟩:=ha;rw[e];exact Jg (Zp L a) Xs
     obtain⟨a1,f1⟩:=i2 _ _ _ _ d ⟨by omega,hle⟩ (by omega) hd (Zft h) (Zaa ha);obtain⟨a2,f2⟩:=i1 _ d (by omega) hd h a1;exact⟨a2,f1,f2⟩
  · rw[Ws]at h ⊢
    by_cases h10:k=10
    ·rw[if_pos h10]at h ⊢
     subst h10;have r1:=Zev L nk n (AH.zero (10:Nat) l c) st;have r2:=Zir L nk n (Xb nk L n (AH.zero (10:Nat) l c) st).2;by_cases he:isS L Uu (Yf nk L n (Xb nk L n (AH.zero (10:Nat) l c) st).2).2=true
     ·rw[if_pos he]at h ⊢
      dsimp only at h ⊢;have r3:=Zbu L he;have g1:=good_take (Zef h);obtain⟨a1,f1⟩:=cond_val hR (by omega) hd (Zef g1) ha;obtain⟨a2,f2,f3⟩:=i3 _ d (by omega) hd g1 a1;obtain⟨a3,f4,_⟩:=i3 _ d (by omega) hd h (take_at a2);exact⟨a3,.inl ⟨f3,f1,f2,f4⟩⟩
     ·rw[if_neg he]at h ⊢
      dsimp only at h ⊢;obtain⟨a1,f1⟩:=cond_val hR (by omega) hd (Zef h) ha;obtain⟨a2,f2,f3⟩:=i3 _ d (by omega) hd h a1;exact⟨a2,.inl ⟨f3,f1,f2,trivial⟩⟩
    ·rw[if_neg h10]at h ⊢
     by_cases h11:k=11
     ·rw[if_pos h11]at h ⊢
      subst h11;dsimp only at h ⊢;have r1:=Ur L nk n st;obtain⟨a1,f1⟩:=Zhc hR (Zef h) ha;obtain⟨a2,f2,f3⟩:=i3 _ d (by omega) hd h a1;exact⟨a2,.inr (.inl ⟨f3,⟨rfl,f1⟩,f2,rfl⟩)⟩
     ·rw[if_neg h11]at h ⊢
      dsimp only at h ⊢;obtain⟨a1,f1⟩:=plain_val hR ⟨hk.1,hk.2,h10,h11⟩ (by omega) hd (Wr h) ha;exact⟨Zaq h a1,.inr (.inr ⟨f1,rfl,rfl⟩)⟩
  · rw[Yf]at h ⊢
    dsimp only at h ⊢;have g1:=Wr (Zkp h);have r1:=Zdd L Yz st;obtain⟨a1,h8⟩:=down_at (Zft g1) ha;obtain⟨a2,f2⟩:=i1 _ (d+1) (by omega) (by omega) g1 a1;exact⟨rise_at h a2,f2,by omega⟩
theorem rules_val(hR:Xz L):∀(n:Nat)(st:St),4*Zk L st+2≤n→(Wn nk L n st).2.good=true→AtD 0 st→AtD 0 (Wn nk L n st).2∧∀ r ∈ (Wn nk L n st).1,VRu r
 |0,st,h,_,_=>by omega
 |n+1,st,hn,h,ha=>by
  rw[Wn]at h ⊢;by_cases h0:Zd L Yl st=0
  ·rw[if_pos h0];exact⟨ha,fun r hr=>by cases hr⟩
  ·rw[if_neg h0]at h ⊢
   dsimp only at h ⊢;have r1:=Wi L h0;have r2:=Zkg L (Zd L Yl st) (Zn L Yl st);have r3:=Yv L Yz (Zbh L (Zd L Yl st) (Zn L Yl st));have r4:=Zhg L nk n (Yg L Yz (Zbh L (Zd L Yl st) (Zn L Yl st)));have r5:=Yv L Xl (Xc nk L n (Yg L Yz (Zbh L (Zd L Yl st) (Zn L Yl st)))).2;have g1:=Zgt h;have g2:=Wr g1;have g3:=Zft g2;have g4:=Wr g3;have hle:Zd L Yl st≤6:=by obtain⟨a,e⟩:=ha;rw[e];exact Jg (Zp L a) Yl
   have hs:AtD 0 (Zbh L (Zd L Yl st) (Zn L Yl st))∧(0≤Zka L (Zd L Yl st) (Zn L Yl st)∧Zka L (Zd L Yl st) (Zn L Yl st)≤99)∧(Zd L Yl st≠5→Zka L (Zd L Yl st) (Zn L Yl st)=0):=by
    unfold Zbh Zka at *;by_cases h5:Zd L Yl st=5
    ·rw[if_pos h5]at g4 ⊢
     rw[if_pos h5];obtain⟨a1,f1⟩:=int_at hR g4 (Zaa ha);exact⟨a1,f1,fun hh=>absurd h5 hh⟩
    ·rw[if_neg h5,if_neg h5]
     exact⟨Zaa ha,by omega,fun _=>rfl⟩
   obtain⟨a1,f1,f2⟩:=hs;obtain⟨a2,f3⟩:=(acts_val hR n).1 _ 0 (by omega) (by omega) g2 (Zaq g3 a1);obtain⟨a3,f4⟩:=rules_val hR n _ (by omega) h (Zaq g1 a2);refine⟨a3,fun r hr=>?_⟩;rcases List.mem_cons.1 hr with rfl | hr
   ·exact⟨⟨by dsimp only;omega,by dsimp only;omega⟩,f1,fun hh=>f2 (fun h5=>hh (by dsimp only;omega)),f3⟩
   ·exact f4 r hr
theorem body_val(hR:Xz L){n:Nat}{st:St}(hn:4*Zk L st+2≤n)(h:(Vx nk L n st).2.good=true)(ha:AtD 0 st):AtD 0 (Vx nk L n st).2∧∀ r ∈ (Vx nk L n st).1,VRu r:=by
 unfold Vx at h ⊢;dsimp only at h ⊢;have r1:=Yv L Yz st;have g1:=Wr h;obtain⟨a1,f1⟩:=rules_val hR n _ (by omega) g1 (Zaq (Zgt g1) ha);exact⟨Zaq h a1,f1⟩
theorem card_val(hR:Xz L){n:Nat}{l c:Int}{st:St}(hn:4*Zk L st+2≤n)(h:(Vf nk L n l c st).2.good=true)(ha:AtD 0 st):AtD 0 (Vf nk L n l c st).2∧VCa (Vf nk L n l c st).1:=by
 unfold Vf at h ⊢;dsimp only at h ⊢;have r1:=Vn L st;have r2:=Yv L Zah (Xk L st);have r3:=Zck L (Yg L Zah (Xk L st));have r4:=Yv L Zal (Zbk L (Yg L Zah (Xk L st)));have r5:=Zda L (Yg L Zal (Zbk L (Yg L Zah (Xk L st))));have g1:=good_body h;have g2:=good_sign g1;have g3:=Wr g2;have g4:=Zhr g3;have g5:=Wr g4;obtain⟨a1,f1⟩:=Zkk hR g5 ha;obtain⟨a2,f2⟩:=int_at hR g3 (Zaq g4 a1);obtain⟨a3,f3⟩:=sign_at hR g1 (Zaq g2 a2);obtain⟨a4,f4⟩:=body_val hR (by omega) h a3;exact⟨a4,f1,f2,f3,f4⟩
theorem place_val(hR:Xz L){n:Nat}{l c:Int}{st:St}(hn:4*Zk L st+2≤n)(h:(Wc nk L n l c st).2.good=true)(ha:AtD 0 st):AtD 0 (Wc nk L n l c st).2∧VPl (Wc nk L n l c st).1:=by
 unfold Wc at h ⊢;dsimp only at h ⊢;have r1:=Vn L st;obtain⟨a1,f1⟩:=Zkk hR (good_body h) ha;obtain⟨a4,f4⟩:=body_val hR (by omega) h a1;exact⟨a4,f1,f4⟩
theorem file_val(hR:Xz L):∀(n:Nat)(st:St),4*Zk L st+1≤n→(Wd nk L n st).2.good=true→AtD 0 st→AtD 0 (Wd nk L n st).2∧VFi (Wd nk L n st).1
 |0,st,h,_,_=>by omega
 |n+1,st,hn,h,ha=>by
  rw[Wd]at h ⊢;by_cases h0:Zd L Xe st=0
  ·rw[if_pos h0];exact⟨ha,(fun c hc=>by cases hc),fun p hp=>by cases hp⟩
  ·rw[if_neg h0]at h ⊢
   have r1:=Wi L h0;by_cases h1:Zd L Xe st=1
   ·rw[if_pos h1]at h ⊢
    dsimp only at h ⊢;have r2:=rem_card L nk n (st.tok L).line (st.tok L).col (Zn L Xe st);obtain⟨a1,f1⟩:=card_val hR (by omega) (good_file h) (Zaa ha);obtain⟨a2,f2,f3⟩:=file_val hR n _ (by omega) h a1;refine⟨a2,fun c hc=>?_,f3⟩;rcases List.mem_cons.1 hc with rfl | hc
    ·exact f1
    ·exact f2 c hc
   ·rw[if_neg h1]at h ⊢
    dsimp only at h ⊢;have r2:=Zip L nk n (st.tok L).line (st.tok L).col (Zn L Xe st);obtain⟨a1,f1⟩:=place_val hR (by omega) (good_file h) (Zaa ha);obtain⟨a2,f2,f3⟩:=file_val hR n _ (by omega) h a1;refine⟨a2,f2,fun p hp=>?_⟩;rcases List.mem_cons.1 hp with rfl | hp
    ·exact f1
    ·exact f3 p hp
end
open Go.ChangeShapes Go.WideShapes Go.ChangeAt Go.RowKit
structure Zfk(w:World)(q c r K:Nat)(L:List TokV)(s:St)(cs:List Ca)(ps:List Pl)(xc xp:List Value)(vc vp:Value)(wr:World):Prop where
 mv:Yc w wr q c r K L s
 res:Zb wr w.heap.size 26 [.slice none 0 0,.slice none 0 0].toArray
 var:Zb wr (w.heap.size+1) 26 [vc,vp].toArray
 rc:wr.ownsRow (w.heap.size+2) 35 6 vc cs.length xc
 rp:wr.ownsRow (w.heap.size+2) 38 4 vp ps.length xp
 dc:Deep (fun k=>w.heap.size+2≤k∧vc.ownBlock≠some k∧vp.ownBlock≠some k) wr (casDs cs) xc
 dp:Deep (fun k=>w.heap.size+2≤k∧vc.ownBlock≠some k∧vp.ownBlock≠some k) wr (plsDs ps) xp
 ap:Zcf vc vp
 qin:q<w.heap.size
 cin:c<w.heap.size
 rin:r<w.heap.size
theorem Zfk.round{w x y:World}{q c r K:Nat}{L:List TokV}{s s':St}{cs:List Ca}{ps:List Pl}{xc xp:List Value}{vc vp:Value}(h:Zfk w q c r K L s cs ps xc xp vc vp x)(f:Wq q c x y)(m:Yc w y q c r K L s'):Zfk w q c r K L s' cs ps xc xp vc vp y:=by
 have hq:=h.qin;have hc:=h.cin;have i1:=h.res.inside;have i2:=h.var.inside
 exact⟨m,f.whole h.res (by omega),f.whole h.var (by omega),f.owns h.rc (fun k hk c=>by have:=h.rc.lt k hk;omega),f.owns h.rp (fun k hk c=>by have:=h.rp.lt k hk;omega),
  h.dc.keeps f (fun k hk hn=>⟨by omega,hn⟩),h.dp.keeps f (fun k hk hn=>⟨by omega,hn⟩),h.ap,hq,hc,h.rin⟩
theorem Zfk.pushC{w x y z:World}{q c r K:Nat}{L:List TokV}{s:St}{cs:List Ca}{ps:List Pl}{xc xp ys:List Value}{vc vp v':Value}(h:Zfk w q c r K L s cs ps xc xp vc vp x)(ca:Ca)
  (ho:y.ownsRow (w.heap.size+2) 35 6 v' (cs.length+1) (xc++ys))(hg:x.grownBy y vc.ownBlock)(hat:v'.ownBlock=vc.ownBlock∨v'.ownBlock=some x.heap.size)
  (d:Deep (fun k=>w.heap.size+2≤k∧vc.ownBlock≠some k∧vp.ownBlock≠some k) x ca.ds ys)(p:Put y z (w.heap.size+1) 26 [v',vp]):Zfk w q c r K L s (cs++[ca]) ps (xc++ys) xp v' vp z:=by
 have hq:=h.qin;have hc:=h.cin;have hr:=h.rin;have i1:=h.res.inside;have i2:=h.var.inside;have hb:∀ k,vc.ownBlock=some k→w.heap.size+2≤k:=fun k hk=>(h.rc.lt k hk).1
 have hk:Keeps (fun k=>vc.ownBlock=some k∨k=w.heap.size+1) x z:=(Keeps.grown (Keeps.refl _ _) hg fun k hk=>.inl hk).trans (p.keeps.mono fun k hk=>.inr hk)
 have hs:∀ k,k<x.heap.size→(w.heap.size+2≤k∧vc.ownBlock≠some k∧vp.ownBlock≠some k)→¬(vc.ownBlock=some k∨k=w.heap.size+1)∧(w.heap.size+2≤k∧v'.ownBlock≠some k∧vp.ownBlock≠some k):=fun k hk hn=>by
  refine⟨fun c=>c.elim hn.2.1 fun e=>by omega,hn.1,fun c=>?_,hn.2.2⟩;rcases hat with e1 | e1
  ·rw[e1]at c;exact hn.2.1 c
  ·rw[e1]at c;injection c with c;omega
 have kq:∀ j,j<w.heap.size+2→¬ vc.ownBlock=some j:=fun j hj e=>by have:=hb j e;omega
 refine⟨⟨h.mv.at_.keeps hk (fun e=>e.elim (kq _ (by omega)) fun e=>by omega) (fun e=>e.elim (kq _ (by omega)) fun e=>by omega) (fun e=>e.elim (kq _ (by omega)) fun e=>by omega),?_⟩,hk.whole h.res (fun e=>e.elim (kq _ (by omega)) fun e=>by omega),p.whole,?_,?_,?_,h.dp.keeps hk hs,?_,hq,hc,hr⟩
 ·have h1:Keeps (fun k=>(k=q∨k=c)∨(vc.ownBlock=some k∨k=w.heap.size+1)) w x:=h.mv.keeps.mono fun k h=>.inl h
  have h2:Keeps (fun k=>(k=q∨k=c)∨(vc.ownBlock=some k∨k=w.heap.size+1)) x z:=hk.mono fun k h=>.inr h
  exact(h1.trans h2).inner fun k hk' h=>h.elim id fun e=>e.elim (fun e=>absurd e (kq k (by omega))) fun e=>by omega
 ·rw[List.length_append]
  exact p.keeps.owns ho fun k hk c=>by have:=(ho.lt k hk).1;omega
 ·exact hk.owns h.rp fun k hk c=>c.elim (fun e=>h.ap k e hk) fun e=>by have:=(h.rp.lt k hk).1;omega
 ·rw[Zgv]
  exact Deep.app (d.keeps hk hs) (h.dc.keeps hk hs)
 ·intro k hk2
  rcases hat with e1 | e1
  ·rw[e1]at hk2;exact h.ap k hk2
  ·rw[e1]at hk2;injection hk2 with e2;intro c;have:=(h.rp.lt k c).2;omega
theorem Zfk.pushP{w x y z:World}{q c r K:Nat}{L:List TokV}{s:St}{cs:List Ca}{ps:List Pl}{xc xp ys:List Value}{vc vp v':Value}(h:Zfk w q c r K L s cs ps xc xp vc vp x)(pl:Pl)
  (ho:y.ownsRow (w.heap.size+2) 38 4 v' (ps.length+1) (xp++ys))(hg:x.grownBy y vp.ownBlock)(hat:v'.ownBlock=vp.ownBlock∨v'.ownBlock=some x.heap.size)
  (d:Deep (fun k=>w.heap.size+2≤k∧vc.ownBlock≠some k∧vp.ownBlock≠some k) x pl.ds ys)(p:Put y z (w.heap.size+1) 26 [vc,v']):Zfk w q c r K L s cs (ps++[pl]) xc (xp++ys) vc v' z:=by
 have hq:=h.qin;have hc:=h.cin;have hr:=h.rin;have i1:=h.res.inside;have i2:=h.var.inside;have hb:∀ k,vp.ownBlock=some k→w.heap.size+2≤k:=fun k hk=>(h.rp.lt k hk).1
 have hk:Keeps (fun k=>vp.ownBlock=some k∨k=w.heap.size+1) x z:=(Keeps.grown (Keeps.refl _ _) hg fun k hk=>.inl hk).trans (p.keeps.mono fun k hk=>.inr hk)
 have hs:∀ k,k<x.heap.size→(w.heap.size+2≤k∧vc.ownBlock≠some k∧vp.ownBlock≠some k)→¬(vp.ownBlock=some k∨k=w.heap.size+1)∧(w.heap.size+2≤k∧vc.ownBlock≠some k∧v'.ownBlock≠some k):=fun k hk hn=>by
  refine⟨fun c=>c.elim hn.2.2 fun e=>by omega,hn.1,hn.2.1,fun c=>?_⟩;rcases hat with e1 | e1
  ·rw[e1]at c;exact hn.2.2 c
  ·rw[e1]at c;injection c with c;omega
 have kq:∀ j,j<w.heap.size+2→¬ vp.ownBlock=some j:=fun j hj e=>by have:=hb j e;omega
 refine⟨⟨h.mv.at_.keeps hk (fun e=>e.elim (kq _ (by omega)) fun e=>by omega) (fun e=>e.elim (kq _ (by omega)) fun e=>by omega) (fun e=>e.elim (kq _ (by omega)) fun e=>by omega),?_⟩,hk.whole h.res (fun e=>e.elim (kq _ (by omega)) fun e=>by omega),p.whole,?_,?_,h.dc.keeps hk hs,?_,?_,hq,hc,hr⟩
 ·have h1:Keeps (fun k=>(k=q∨k=c)∨(vp.ownBlock=some k∨k=w.heap.size+1)) w x:=h.mv.keeps.mono fun k h=>.inl h
  have h2:Keeps (fun k=>(k=q∨k=c)∨(vp.ownBlock=some k∨k=w.heap.size+1)) x z:=hk.mono fun k h=>.inr h
  exact(h1.trans h2).inner fun k hk' h=>h.elim id fun e=>e.elim (fun e=>absurd e (kq k (by omega))) fun e=>by omega
 ·exact hk.owns h.rc fun k hk c=>c.elim (fun e=>h.ap k hk e) fun e=>by have:=(h.rc.lt k hk).1;omega
 ·rw[List.length_append]
  exact p.keeps.owns ho fun k hk c=>by have:=(ho.lt k hk).1;omega
 ·rw[Zgm]
  exact Deep.app (d.keeps hk hs) (h.dp.keeps hk hs)
 ·intro k hk2 c
  rcases hat with e1 | e1
  ·rw[e1]at c;exact h.ap k hk2 c
  ·rw[e1]at c;injection c with e2;have:=(h.rc.lt k hk2).2;omega
theorem file_stop(nk:Int)(L:List TokV)(m:Nat)(st:St)(h:Zd L Xe st=0):Wd nk L (m+1) st=(⟨[],[]⟩,st):=by rw[Wd,if_pos h]
theorem file_card(nk:Int)(L:List TokV)(m:Nat)(st:St)(h:Zd L Xe st=1):Wd nk L (m+1) st =
 (⟨(Vf nk L m (st.tok L).line (st.tok L).col (Zn L Xe st)).1::(Wd nk L m (Vf nk L m (st.tok L).line (st.tok L).col (Zn L Xe st)).2).1.cards,
     (Wd nk L m (Vf nk L m (st.tok L).line (st.tok L).col (Zn L Xe st)).2).1.places⟩,
   (Wd nk L m (Vf nk L m (st.tok L).line (st.tok L).col (Zn L Xe st)).2).2):=by rw[Wd,if_neg (by omega),if_pos h]
theorem file_place(nk:Int)(L:List TokV)(m:Nat)(st:St)(h:Zd L Xe st=2):Wd nk L (m+1) st =
 (⟨(Wd nk L m (Wc nk L m (st.tok L).line (st.tok L).col (Zn L Xe st)).2).1.cards,
     (Wc nk L m (st.tok L).line (st.tok L).col (Zn L Xe st)).1::(Wd nk L m (Wc nk L m (st.tok L).line (st.tok L).col (Zn L Xe st)).2).1.places⟩,
   (Wd nk L m (Wc nk L m (st.tok L).line (st.tok L).col (Zn L Xe st)).2).2):=by rw[Wd,if_neg (by omega),if_neg (by omega)]
theorem xfile(n:Nat)(w:World)(q c r K:Nat)(L:List TokV)(st:St)(h:PAt w q c r K L st)(hn:8*Zk L st+10≤n)(hLn:Zk L st≤68719476736) :
  Calls Tryz.prog 85 #[.pointer (some ⟨q,0,none⟩)] w (Zz w q c r K L (Wd 5 L n st).2 (Wd 5 L n st).1.ds):=by
 have qin:=h.whole.inside;have cin:=h.cin;have rin:=h.rin;have nb:=Za w (.cells #[.slice none 0 0,.slice none 0 0] 26);have nb2:=Za (w.alloc (.cells #[.slice none 0 0,.slice none 0 0] 26)) (.cells #[.slice none 0 0,.slice none 0 0] 26)
 have H0:=Hh (show Zfk w q c r K L st [] [] [] [] (.slice none 0 0) (.slice none 0 0) ((w.alloc (.cells #[.slice none 0 0,.slice none 0 0] 26)).alloc (.cells #[.slice none 0 0,.slice none 0 0] 26))from
  ⟨((Yc.start h).next nb).next nb2,(Zb.made w 26 #[.slice none 0 0,.slice none 0 0]).alloc (.cells #[.slice none 0 0,.slice none 0 0] 26),by have e:=Zb.made (w.alloc (.cells #[.slice none 0 0,.slice none 0 0] 26)) 26 #[.slice none 0 0,.slice none 0 0];rw[World.size_alloc]at e;exact e,
    World.ownsRow_nil _ _ _ _,World.ownsRow_nil _ _ _ _,rfl,rfl,Zcf.nil _,qin,cin,rin⟩)
 have HN:=Hh (And.intro hn hLn);clear hn h hLn nb nb2;go_enter Tryz.func85,Tryz.ntmps85;go_wp2
 go_loopw [4] (fun v4 wr=>∃(m:Nat)(cs:List Ca)(ps:List Pl)(xc xp:List Value)(vc vp:Value)(s:St),Zfk w q c r K L s cs ps xc xp vc vp wr∧8*Zk L s+10≤m∧m≤n∧cs.length+ps.length+Zk L s≤Zk L st ∧
  Wd 5 L n st=(⟨cs++(Wd 5 L m s).1.cards,ps++(Wd 5 L m s).1.places⟩,(Wd 5 L m s).2)) (fun _ wr=>remW q c wr)
 case atStart=>exact⟨n,[],[],[],[],_,_,st,H0.out,HN.out.1,Nat.le_refl _,by simp,by simp⟩
 case round=>
  obtain⟨m,cs,ps,xc,xp,vc,vp,s,hR,hm,hmn,hacc,heq⟩:=hrel;obtain⟨m,rfl⟩:∃ m',m=m'+1:=⟨m - 1,by omega⟩
  have hcell:=hR.mv.at_.cell;have hrem:=hR.mv.at_.rem;have hpk:=xPeek wr q c r K L s hR.mv.at_;have hz0:w.heap.size+2≤wr.heap.size:=by have:=hR.var.inside;omega
  obtain⟨fi0,fi1⟩:=find_inv L Xe s;have hfr:=Wi (L:=L) (ws:=Xe) (st:=s);have hfn:=Jn L (ws:=Xe) (st:=s);have hle:=Zhx L Xe s;have hsp:=file_stop 5 L m s;have hs1:=file_card 5 L m s;have hs2:=file_place 5 L m s;generalize s.tok L=tv at *;unfold Vk at hpk;generalize Zd L Xe s=k at *;generalize Zn L Xe s=s1 at *;have HR:=Hh hR;have HQ:=Hh heq;have hk3:k=0∨k=1∨k=2:=by have e:k≤2:=hle;omega
  clear hR heq hle;rcases hk3 with hk | hk | hk
  · have t1:∀ w,PAt w q c r K L s→Calls Tryz.prog 136 #[Xn c s,.string ⟨#[99,97,114,100]⟩] w (Zv w q c r K L s (.bool false)):=fun w h=>by have e:isS L ⟨#[99,97,114,100]⟩ s=false:=fi0 hk 0 (by decide);have h1:=Wo w q c r K L s ⟨#[99,97,114,100]⟩ h;rw[e,Xj e]at h1;exact h1
    have t2:∀ w,PAt w q c r K L s→Calls Tryz.prog 136 #[Xn c s,.string ⟨#[112,108,97,99,101]⟩] w (Zv w q c r K L s (.bool false)):=fun w h=>by have e:isS L ⟨#[112,108,97,99,101]⟩ s=false:=fi0 hk 1 (by decide);have h1:=Wo w q c r K L s ⟨#[112,108,97,99,101]⟩ h;rw[e,Xj e]at h1;exact h1
    have HS:=Hh (hsp hk);clear hs1 hs2 hsp hfn hfr hm hmn hacc hrem fi0 fi1 hk;go_wp2_with(first
 |(go_at_call 133;refine hpk.mono ?_;rintro e w1 ⟨rfl,b1⟩
   have nb:=Za w1 (.cells #[.int .i64 tv.k,.string tv.t,.int .i64 tv.n,.int .i64 (tv.line:Int),.int .i64 (tv.col:Int)] 85);have M1:=Hh ((HR.out.mv.next b1).next nb);have hcell:=M1.out.at_.cell;have F1:=Hh (((Wq.start q c wr).next b1).next nb);have K1:=Hh (Zb.made w1 85 #[.int .i64 tv.k,.string tv.t,.int .i64 tv.n,.int .i64 (tv.line:Int),.int .i64 (tv.col:Int)]);have hz1:wr.heap.size≤w1.heap.size:=b1.size;clear b1 nb)
 |(go_at_call 136;(with_reducible refine(t1 _ ?_).mono ?_);exact M1.out.at_;rintro e w2 ⟨rfl,m2⟩
   have M2:=Hh (M1.out.then m2);have hcell:=M2.out.at_.cell;have F2:=Hh (F1.out.move m2);have K2:=Hh (m2.keeps.whole K1.out (by omega));have hz2:w1.heap.size+1≤w2.heap.size:=by have:=m2.keeps.size;(try simp at this);omega
   clear m2)
 |(go_at_call 136;(with_reducible refine(t2 _ ?_).mono ?_);exact M2.out.at_;rintro e w3 ⟨rfl,m3⟩
   have M3:=Hh (M2.out.then m3);have hcell:=M3.out.at_.cell;have F3:=Hh (F2.out.move m3);have K3:=Hh (m3.keeps.whole K2.out (by omega));have hz3:=Nat.le_trans hz2 m3.keeps.size;clear m3)
 |((with_reducible refine at_ld 12 ?_);refine wpList_loadW 26 _ 26 (w.heap.size+1) [vc,vp] (HR.out.round F3.out M3.out).var Zeu Up rfl rfl rfl ?_)
 |((with_reducible refine at_st 2 12 ?_);refine wpList_storeW 26 _ _ 26 w.heap.size [.slice none 0 0,.slice none 0 0] [vc,vp] (HR.out.round F3.out M3.out).res rfl Up (by obtain⟨_,_,e1,_⟩:=own_form HR.out.rc;obtain⟨_,_,e2,_⟩:=own_form HR.out.rp;rw[e1,e2];simp[Value.oneCell']) rfl rfl rfl rfl rfl ?_
   intro w4 p4;have R4:=Hh p4.whole;have R3:=Hh (HR.out.round F3.out M3.out)
   have P4:=Hh p4;clear p4))
    refine Zj 2 26 26 w.heap.size _ rfl R4.out Zeu Up rfl rfl ⟨_,rfl,?_,?_⟩
    ·rw[HQ.out,HS.out]
     dsimp only;rw[List.append_nil,List.append_nil];have R:=R3.out;have a:=Deep.rowOf R.rp (N:=fun k=>w.heap.size+2≤k) (fun k hk=>hk) (R.dp.mono fun k _ hk=>hk.1);have b:=Deep.rowOf R.rc (N:=fun k=>w.heap.size+2≤k) (fun k hk=>hk) (R.dc.mono fun k _ hk=>hk.1);exact((Deep.app (x:=.row cs.length (casDs cs) .nil) a b).keeps P4.out.keeps (M:=fun k=>w.heap.size≤k) fun k _ hk=>⟨by omega,by omega⟩)
    ·rw[HQ.out,HS.out]
     exact R3.out.mv.put P4.out (Nat.le_refl _) qin cin rin
  · have t1:∀ w,PAt w q c r K L s→Calls Tryz.prog 136 #[Xn c s,.string ⟨#[99,97,114,100]⟩] w (Zv w q c r K L s1 (.bool true)):=fun w h=>by have e:=(fi1 0 hk).2;have e1:isS L ⟨#[99,97,114,100]⟩ s=true:=e.1;have e2:s1=Xf L ⟨#[99,97,114,100]⟩ s:=e.2;have h1:=Wo w q c r K L s ⟨#[99,97,114,100]⟩ h;rw[e1,←e2]at h1;exact h1
    have hst:=hs1 hk;have hfr:=hfr (by omega);have hrc:=rem_card L 5 m 0 0 s1;have hca:∀ w,PAt w q c r K L s1→Calls Tryz.prog 137 #[.pointer (some ⟨q,0,none⟩)] w (Zz w q c r K L (Vf 5 L m 0 0 s1).2 (Vf 5 L m 0 0 s1).1.ds):=fun w h=>xcard w q c r K L s1 m h (by omega) (by have:=HN.out;omega)
    rw[show Vf 5 L m (tv.line:Int) (tv.col:Int) s1=(⟨(Vf 5 L m 0 0 s1).1.name,(Vf 5 L m 0 0 s1).1.cost,(Vf 5 L m 0 0 s1).1.power,(tv.line:Int),(tv.col:Int),(Vf 5 L m 0 0 s1).1.rules⟩,(Vf 5 L m 0 0 s1).2)from rfl]at hst;generalize Vf 5 L m 0 0 s1=xx at *;obtain⟨x,s2⟩:=xx;dsimp only at hst hrc hca;have HT:=Hh (And.intro hst (And.intro hm (And.intro hmn (And.intro hacc (And.intro hrem (And.intro hfr hrc))))));clear hs1 hs2 hsp hfn hm hmn hacc hrem fi0 fi1 hk hst hfr hrc;go_wp2_with(first
 |(go_at_call 133;refine hpk.mono ?_;rintro e w1 ⟨rfl,b1⟩
   have nb:=Za w1 (.cells #[.int .i64 tv.k,.string tv.t,.int .i64 tv.n,.int .i64 (tv.line:Int),.int .i64 (tv.col:Int)] 85);have M1:=Hh ((HR.out.mv.next b1).next nb);have hcell:=M1.out.at_.cell;have F1:=Hh (((Wq.start q c wr).next b1).next nb);have K1:=Hh (Zb.made w1 85 #[.int .i64 tv.k,.string tv.t,.int .i64 tv.n,.int .i64 (tv.line:Int),.int .i64 (tv.col:Int)]);have hz1:wr.heap.size≤w1.heap.size:=b1.size;clear b1 nb)
 |(go_at_call 136;(with_reducible refine(t1 _ ?_).mono ?_);exact M1.out.at_;rintro e w2 ⟨rfl,m2⟩
   have M2:=Hh (M1.out.then m2);have hcell:=M2.out.at_.cell;have F2:=Hh (F1.out.move m2);have K2:=Hh (m2.keeps.whole K1.out (by omega));have hz2:w1.heap.size+1≤w2.heap.size:=by have:=m2.keeps.size;(try simp at this);omega
   clear m2)
 |(go_at_call 137;refine(hca _ M2.out.at_).mono ?_;rintro e w4 ⟨vs,rfl,d4,m4⟩
   obtain⟨_,rfl,_,rfl,_,rfl,_,rfl,_,rfl,dr⟩:=d4;obtain⟨Aa,Ac,rs,tt,e1,dn,d5,d6,rfl⟩:=dr;subst e1;have nb:=Za w4 (.cells #[.string x.name,.int .i64 x.cost,.int .i64 x.power,.int .i64 x.line,.int .i64 x.col,.slice Aa x.rules.length Ac] 35);have M4:=Hh ((M2.out.then m4).next nb);have F4:=Hh ((F2.out.move m4).next nb);have K4:=m4.keeps.whole K2.out (by omega);have y3:∀ o,(w4.alloc o).cell? ⟨w1.heap.size,3,none⟩=some (.int .i64 (tv.line:Int)):=fun o=>(K4.alloc o).read 3
   have y4:∀ o,(w4.alloc o).cell? ⟨w1.heap.size,4,none⟩=some (.int .i64 (tv.col:Int)):=fun o=>(K4.alloc o).read 4
   have hz4:w2.heap.size≤w4.heap.size:=m4.keeps.size;have D4:=Hh (show Deep (fun k=>w2.heap.size≤k) w4 (.row x.rules.length (rusDs x.rules) .nil) [.slice Aa x.rules.length Ac]from⟨Aa,Ac,rs,[],rfl,dn,d5,d6,rfl⟩);have hne:¬(w4.heap.size=w1.heap.size):=by omega
   have X4:=Hh m4;clear m4 nb K4 dn d5 d6))
    go_region
    have T5:=Hh (show Zb (w4.alloc (.cells #[.string x.name,.int .i64 x.cost,.int .i64 x.power,.int .i64 (tv.line:Int),.int .i64 (tv.col:Int),.slice Aa x.rules.length Ac] 35)).drew w4.heap.size 35 ([.string x.name,.int .i64 x.cost,.int .i64 x.power,.int .i64 (tv.line:Int),.int .i64 (tv.col:Int),.slice Aa x.rules.length Ac]:List Value).toArray from(Zb.made w4 35 #[.string x.name,.int .i64 x.cost,.int .i64 x.power,.int .i64 (tv.line:Int),.int .i64 (tv.col:Int),.slice Aa x.rules.length Ac]).drew);have k5:Keeps (fun _=>False) (w4.alloc (.cells #[.string x.name,.int .i64 x.cost,.int .i64 x.power,.int .i64 x.line,.int .i64 x.col,.slice Aa x.rules.length Ac] 35)) (w4.alloc (.cells #[.string x.name,.int .i64 x.cost,.int .i64 x.power,.int .i64 (tv.line:Int),.int .i64 (tv.col:Int),.slice Aa x.rules.length Ac] 35)).drew→True:=fun _=>trivial
    have nb:=Za w4 (.cells #[.string x.name,.int .i64 x.cost,.int .i64 x.power,.int .i64 (tv.line:Int),.int .i64 (tv.col:Int),.slice Aa x.rules.length Ac] 35);have M5:=Hh (((M2.out.then X4.out).next nb).drew);have F5:=Hh (((F2.out.move X4.out).next nb).drew);have D5:=Hh ((D4.out.below nb).keeps (S:=fun _=>False) (Keeps.drew (Keeps.refl _ _)) (M:=fun k=>w2.heap.size≤k) (fun k _ hk=>⟨id,hk⟩));have hz5:w4.heap.size+1≤(w4.alloc (.cells #[.string x.name,.int .i64 x.cost,.int .i64 x.power,.int .i64 (tv.line:Int),.int .i64 (tv.col:Int),.slice Aa x.rules.length Ac] 35)).drew.heap.size:=T5.out.inside;clear nb y3 y4 k5;generalize(w4.alloc (.cells #[.string x.name,.int .i64 x.cost,.int .i64 x.power,.int .i64 (tv.line:Int),.int .i64 (tv.col:Int),.slice Aa x.rules.length Ac] 35)).drew=w5 at *;have R5:=Hh (HR.out.round F5.out M5.out);have hT:w5.cell? ⟨w.heap.size+1,0,none⟩=some (vc):=R5.out.var.read 0;have D6:=Hh (show Deep (fun k=>w2.heap.size≤k) w5 (⟨x.name,x.cost,x.power,(tv.line:Int),(tv.col:Int),x.rules⟩:Ca).ds [.string x.name,.int .i64 x.cost,.int .i64 x.power,.int .i64 (tv.line:Int),.int .i64 (tv.col:Int),.slice Aa x.rules.length Ac]from⟨_,rfl,_,rfl,_,rfl,_,rfl,_,rfl,D5.out⟩);go_wp2_with(first
 |((with_reducible refine at_ld 29 ?_);refine wpList_loadW 35 _ 35 w4.heap.size _ T5.out row_ca Zkf rfl rfl rfl ?_)
 |(at_builtin;refine wpList_pushL (.tmp 28) (.tmp 30) 23 35 6 72 _ und_cas info_ca rfl (by decide) (by decide) (w.heap.size+2) (vc) cs.length xc [.string x.name,.int .i64 x.cost,.int .i64 x.power,.int .i64 (tv.line:Int),.int .i64 (tv.col:Int),.slice Aa x.rules.length Ac] (R5.out.round (Wq.next (Wq.start q c _) (Za w5 (.cells [.string x.name,.int .i64 x.cost,.int .i64 x.power,.int .i64 (tv.line:Int),.int .i64 (tv.col:Int),.slice Aa x.rules.length Ac].toArray 35))) (R5.out.mv.next (Za w5 (.cells [.string x.name,.int .i64 x.cost,.int .i64 x.power,.int .i64 (tv.line:Int),.int .i64 (tv.col:Int),.slice Aa x.rules.length Ac].toArray 35)))).rc w5.heap.size (Zb.made _ _ _) rfl (by simp[Value.oneCell']) (by have:=HT.out.2.2.2.1;have:=HN.out.2;omega) (by simp;omega) rfl rfl rfl rfl ?_
   intro v9 w9 o9 g9 at9;have R9:=Hh (R5.out.round (Wq.next (Wq.start q c _) (Za w5 (.cells [.string x.name,.int .i64 x.cost,.int .i64 x.power,.int .i64 (tv.line:Int),.int .i64 (tv.col:Int),.slice Aa x.rules.length Ac].toArray 35))) (R5.out.mv.next (Za w5 (.cells [.string x.name,.int .i64 x.cost,.int .i64 x.power,.int .i64 (tv.line:Int),.int .i64 (tv.col:Int),.slice Aa x.rules.length Ac].toArray 35))));have O9:=Hh (And.intro o9 (And.intro g9 at9));have V9:=Hh (Vd g9 R9.out.var (fun c=>by have:=(HR.out.rc.lt _ c).1;omega));obtain⟨A9,c9,rfl,_⟩:=own_form o9;clear o9 g9 at9)
 |((with_reducible refine at_st 32 31 ?_);refine wpList_store1 23 _ _ 26 (w.heap.size+1) 0 [] (vc) (.slice A9 (cs.length+1) c9) [vp] V9.out rfl size_cas rfl rfl rfl rfl rfl rfl ?_
   intro w10 p10;have R10:=Hh (R9.out.pushC ⟨x.name,x.cost,x.power,(tv.line:Int),(tv.col:Int),x.rules⟩ O9.out.1 O9.out.2.1 O9.out.2.2 ((D6.out.below (Za w5 (.cells [.string x.name,.int .i64 x.cost,.int .i64 x.power,.int .i64 (tv.line:Int),.int .i64 (tv.col:Int),.slice Aa x.rules.length Ac].toArray 35))).mono fun k _ hk=>⟨by omega,fun c=>by have:=HR.out.rc.lt _ c;omega,fun c=>by have:=HR.out.rp.lt _ c;omega⟩) p10)
   clear p10))
    go_roundw
    case rel=>
     obtain⟨h1,h2,h3,h4,h5,h6,h7⟩:=HT.out;refine⟨m,cs++[⟨x.name,x.cost,x.power,(tv.line:Int),(tv.col:Int),x.rules⟩],ps,_,_,_,_,s2,R10.out,?_,?_,?_,?_⟩
     ·omega
     ·omega
     ·rw[List.length_append];simp only[List.length_cons,List.length_nil];omega
     ·rw[HQ.out,h1];simp
    case measure=>
     obtain⟨h1,h2,h3,h4,h5,h6,h7⟩:=HT.out;have:=R10.out.mv.at_.rem;rw[this,h5];omega
  · have t1:∀ w,PAt w q c r K L s→Calls Tryz.prog 136 #[Xn c s,.string ⟨#[99,97,114,100]⟩] w (Zv w q c r K L s (.bool false)):=fun w h=>by have e:isS L ⟨#[99,97,114,100]⟩ s=false:=(fi1 1 hk).1 0 (by decide);have h1:=Wo w q c r K L s ⟨#[99,97,114,100]⟩ h;rw[e,Xj e]at h1;exact h1
    have t2:∀ w,PAt w q c r K L s→Calls Tryz.prog 136 #[Xn c s,.string ⟨#[112,108,97,99,101]⟩] w (Zv w q c r K L s1 (.bool true)):=fun w h=>by have e:=(fi1 1 hk).2;have e1:isS L ⟨#[112,108,97,99,101]⟩ s=true:=e.1;have e2:s1=Xf L ⟨#[112,108,97,99,101]⟩ s:=e.2;have h1:=Wo w q c r K L s ⟨#[112,108,97,99,101]⟩ h;rw[e1,←e2]at h1;exact h1
    have hst:=hs2 hk;have hfr:=hfr (by omega);have hrc:=Zip L 5 m 0 0 s1;have hca:∀ w,PAt w q c r K L s1→Calls Tryz.prog 138 #[.pointer (some ⟨q,0,none⟩)] w (Zz w q c r K L (Wc 5 L m 0 0 s1).2 (Wc 5 L m 0 0 s1).1.ds):=fun w h=>xplace w q c r K L s1 m h (by omega) (by have:=HN.out;omega)
    rw[show Wc 5 L m (tv.line:Int) (tv.col:Int) s1=(⟨(Wc 5 L m 0 0 s1).1.name,(tv.line:Int),(tv.col:Int),(Wc 5 L m 0 0 s1).1.rules⟩,(Wc 5 L m 0 0 s1).2)from rfl]at hst;generalize Wc 5 L m 0 0 s1=xx at *;obtain⟨x,s2⟩:=xx;dsimp only at hst hrc hca;have HT:=Hh (And.intro hst (And.intro hm (And.intro hmn (And.intro hacc (And.intro hrem (And.intro hfr hrc))))));clear hs1 hs2 hsp hfn hm hmn hacc hrem fi0 fi1 hk hst hfr hrc;go_wp2_with(first
 |(go_at_call 133;refine hpk.mono ?_;rintro e w1 ⟨rfl,b1⟩
   have nb:=Za w1 (.cells #[.int .i64 tv.k,.string tv.t,.int .i64 tv.n,.int .i64 (tv.line:Int),.int .i64 (tv.col:Int)] 85);have M1:=Hh ((HR.out.mv.next b1).next nb);have hcell:=M1.out.at_.cell;have F1:=Hh (((Wq.start q c wr).next b1).next nb);have K1:=Hh (Zb.made w1 85 #[.int .i64 tv.k,.string tv.t,.int .i64 tv.n,.int .i64 (tv.line:Int),.int .i64 (tv.col:Int)]);have hz1:wr.heap.size≤w1.heap.size:=b1.size;clear b1 nb)
 |(go_at_call 136;(with_reducible refine(t1 _ ?_).mono ?_);exact M1.out.at_;rintro e w2 ⟨rfl,m2⟩
   have M2:=Hh (M1.out.then m2);have hcell:=M2.out.at_.cell;have F2:=Hh (F1.out.move m2);have K2:=Hh (m2.keeps.whole K1.out (by omega));have hz2:w1.heap.size+1≤w2.heap.size:=by have:=m2.keeps.size;(try simp at this);omega
   clear m2)
 |(go_at_call 136;(with_reducible refine(t2 _ ?_).mono ?_);exact M2.out.at_;rintro e w3 ⟨rfl,m3⟩
   have M3:=Hh (M2.out.then m3);have hcell:=M3.out.at_.cell;have F3:=Hh (F2.out.move m3);have K3:=Hh (m3.keeps.whole K2.out (by omega));have hz3:=Nat.le_trans hz2 m3.keeps.size;clear m3)
 |(go_at_call 138;refine(hca _ M3.out.at_).mono ?_;rintro e w4 ⟨vs,rfl,d4,m4⟩
   obtain⟨_,rfl,_,rfl,_,rfl,dr⟩:=d4;obtain⟨Aa,Ac,rs,tt,e1,dn,d5,d6,rfl⟩:=dr;subst e1;have nb:=Za w4 (.cells #[.string x.name,.int .i64 x.line,.int .i64 x.col,.slice Aa x.rules.length Ac] 38);have M4:=Hh ((M3.out.then m4).next nb);have F4:=Hh ((F3.out.move m4).next nb);have K4:=m4.keeps.whole K3.out (by omega);have y3:∀ o,(w4.alloc o).cell? ⟨w1.heap.size,3,none⟩=some (.int .i64 (tv.line:Int)):=fun o=>(K4.alloc o).read 3
   have y4:∀ o,(w4.alloc o).cell? ⟨w1.heap.size,4,none⟩=some (.int .i64 (tv.col:Int)):=fun o=>(K4.alloc o).read 4
   have hz4:w3.heap.size≤w4.heap.size:=m4.keeps.size;have D4:=Hh (show Deep (fun k=>w3.heap.size≤k) w4 (.row x.rules.length (rusDs x.rules) .nil) [.slice Aa x.rules.length Ac]from⟨Aa,Ac,rs,[],rfl,dn,d5,d6,rfl⟩);have hne:¬(w4.heap.size=w1.heap.size):=by omega
   have X4:=Hh m4;clear m4 nb K4 dn d5 d6))
    go_region
    have T5:=Hh (show Zb (w4.alloc (.cells #[.string x.name,.int .i64 (tv.line:Int),.int .i64 (tv.col:Int),.slice Aa x.rules.length Ac] 38)).drew w4.heap.size 38 ([.string x.name,.int .i64 (tv.line:Int),.int .i64 (tv.col:Int),.slice Aa x.rules.length Ac]:List Value).toArray from(Zb.made w4 38 #[.string x.name,.int .i64 (tv.line:Int),.int .i64 (tv.col:Int),.slice Aa x.rules.length Ac]).drew);have k5:Keeps (fun _=>False) (w4.alloc (.cells #[.string x.name,.int .i64 x.line,.int .i64 x.col,.slice Aa x.rules.length Ac] 38)) (w4.alloc (.cells #[.string x.name,.int .i64 (tv.line:Int),.int .i64 (tv.col:Int),.slice Aa x.rules.length Ac] 38)).drew→True:=fun _=>trivial
    have nb:=Za w4 (.cells #[.string x.name,.int .i64 (tv.line:Int),.int .i64 (tv.col:Int),.slice Aa x.rules.length Ac] 38);have M5:=Hh (((M3.out.then X4.out).next nb).drew);have F5:=Hh (((F3.out.move X4.out).next nb).drew);have D5:=Hh ((D4.out.below nb).keeps (S:=fun _=>False) (Keeps.drew (Keeps.refl _ _)) (M:=fun k=>w3.heap.size≤k) (fun k _ hk=>⟨id,hk⟩));have hz5:w4.heap.size+1≤(w4.alloc (.cells #[.string x.name,.int .i64 (tv.line:Int),.int .i64 (tv.col:Int),.slice Aa x.rules.length Ac] 38)).drew.heap.size:=T5.out.inside;clear nb y3 y4 k5;generalize(w4.alloc (.cells #[.string x.name,.int .i64 (tv.line:Int),.int .i64 (tv.col:Int),.slice Aa x.rules.length Ac] 38)).drew=w5 at *;have R5:=Hh (HR.out.round F5.out M5.out);have hT:w5.cell? ⟨w.heap.size+1,1,none⟩=some (vp):=R5.out.var.read 1;have D6:=Hh (show Deep (fun k=>w3.heap.size≤k) w5 (⟨x.name,(tv.line:Int),(tv.col:Int),x.rules⟩:Pl).ds [.string x.name,.int .i64 (tv.line:Int),.int .i64 (tv.col:Int),.slice Aa x.rules.length Ac]from⟨_,rfl,_,rfl,_,rfl,D5.out⟩);go_wp2_with(first
 |((with_reducible refine at_ld 49 ?_);refine wpList_loadW 38 _ 38 w4.heap.size _ T5.out row_pl Zke rfl rfl rfl ?_)
 |(at_builtin;refine wpList_pushL (.tmp 48) (.tmp 50) 24 38 4 56 _ und_pls info_pl rfl (by decide) (by decide) (w.heap.size+2) (vp) ps.length xp [.string x.name,.int .i64 (tv.line:Int),.int .i64 (tv.col:Int),.slice Aa x.rules.length Ac] (R5.out.round (Wq.next (Wq.start q c _) (Za w5 (.cells [.string x.name,.int .i64 (tv.line:Int),.int .i64 (tv.col:Int),.slice Aa x.rules.length Ac].toArray 38))) (R5.out.mv.next (Za w5 (.cells [.string x.name,.int .i64 (tv.line:Int),.int .i64 (tv.col:Int),.slice Aa x.rules.length Ac].toArray 38)))).rp w5.heap.size (Zb.made _ _ _) rfl (by simp[Value.oneCell']) (by have:=HT.out.2.2.2.1;have:=HN.out.2;omega) (by simp;omega) rfl rfl rfl rfl ?_
   intro v9 w9 o9 g9 at9;have R9:=Hh (R5.out.round (Wq.next (Wq.start q c _) (Za w5 (.cells [.string x.name,.int .i64 (tv.line:Int),.int .i64 (tv.col:Int),.slice Aa x.rules.length Ac].toArray 38))) (R5.out.mv.next (Za w5 (.cells [.string x.name,.int .i64 (tv.line:Int),.int .i64 (tv.col:Int),.slice Aa x.rules.length Ac].toArray 38))));have O9:=Hh (And.intro o9 (And.intro g9 at9));have V9:=Hh (Vd g9 R9.out.var (fun c=>by have:=(HR.out.rp.lt _ c).1;omega));obtain⟨A9,c9,rfl,_⟩:=own_form o9;clear o9 g9 at9)
 |((with_reducible refine at_st 52 51 ?_);refine wpList_store1 24 _ _ 26 (w.heap.size+1) 1 [vc] (vp) (.slice A9 (ps.length+1) c9) [] V9.out rfl size_pls rfl rfl rfl rfl rfl rfl ?_
   intro w10 p10;have R10:=Hh (R9.out.pushP ⟨x.name,(tv.line:Int),(tv.col:Int),x.rules⟩ O9.out.1 O9.out.2.1 O9.out.2.2 ((D6.out.below (Za w5 (.cells [.string x.name,.int .i64 (tv.line:Int),.int .i64 (tv.col:Int),.slice Aa x.rules.length Ac].toArray 38))).mono fun k _ hk=>⟨by omega,fun c=>by have:=HR.out.rc.lt _ c;omega,fun c=>by have:=HR.out.rp.lt _ c;omega⟩) p10)
   clear p10))
    go_roundw
    case rel=>
     obtain⟨h1,h2,h3,h4,h5,h6,h7⟩:=HT.out;refine⟨m,cs,ps++[⟨x.name,(tv.line:Int),(tv.col:Int),x.rules⟩],_,_,_,_,s2,R10.out,?_,?_,?_,?_⟩
     ·omega
     ·omega
     ·rw[List.length_append];simp only[List.length_cons,List.length_nil];omega
     ·rw[HQ.out,h1];simp
    case measure=>
     obtain⟨h1,h2,h3,h4,h5,h6,h7⟩:=HT.out;have:=R10.out.mv.at_.rem;rw[this,h5];omega
end Go.Proofs.YtljdgdphldckhaaGreat
