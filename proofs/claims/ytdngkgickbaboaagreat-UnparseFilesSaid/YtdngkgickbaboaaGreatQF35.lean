/- The walk. No conditions. -/
import Derived.Test.YtdngkgickbaboaaGreatQF22
import Derived.Test.YtdngkgickbaboaaGreatQF34
set_option maxRecDepth 20000
set_option maxHeartbeats 12800000
set_option linter.unusedVariables false
set_option linter.unusedSimpArgs false
namespace Go.Proofs.YtdngkgickbaboaaGreat
open Go.Value renaming int→I,slice→Λ,pointer→Ω,string→Ψ,oneCell'→Γ
open Go.IntKind renaming i64→J
open _root_.Go.Proofs.Tryz renaming prog→Φ
open Nat renaming le_refl→Θ
open Go.Ending renaming returned→η
open Go.Great Go.ChangeShapes Go.WideShapes Go.ChangeAt Go.RowKit
theorem Ze.rangeF{w:World}{g:Nat}{t:TypeId}{l:List Value}(h:Ze w g t l.toArray):w.rangeAt g 0 l:=by
 have:=Ze.range (a:=[]) (b:=l) (c:=[]) (by simpa using h);exact this
theorem und_casF:Tryz.prog.underlying 23=some (.slice 35):=by kernel_rfl
theorem und_plsF:Tryz.prog.underlying 24=some (.slice 38):=by kernel_rfl
theorem z_fiF:(Tryz.prog.info? 26).map (fun i=>i.zero.map Value.cells)=some (some ([Λ none 0 0,Λ none 0 0]:List Value).toArray):=by kernel_rfl
theorem fi_cardF{N:Nat→Prop}{w:World}{f:Fi}{A B:Option Addr}{nC nP c d:Nat}(h:Zt N w f.ds [Λ A nC c,Λ B nP d]){m:Nat}(hm:m<f.cards.length) :
  ∃ g ys,A=some ⟨g,0,none⟩∧g<w.heap.size∧w.rangeAt g (m*6) ys∧Zt N w (f.cards[m]'hm).ds ys:=by
 obtain⟨A1,c1,xs,_,e,n1,w1,d1,_⟩:=h;obtain⟨p,ys,q,rfl,hp,hd⟩:=cas_at d1 m hm;injection e with e;injection e with e;subst e;have hl:ys.length=6:=hd.len;obtain⟨g,rfl,hg,hc⟩:=w1.reads (by simp;omega);exact⟨g,ys,rfl,hg,Zhg hc hp,hd⟩
theorem fi_placeF{N:Nat→Prop}{w:World}{f:Fi}{A B:Option Addr}{nC nP c d:Nat}(h:Zt N w f.ds [Λ A nC c,Λ B nP d]){m:Nat}(hm:m<f.places.length) :
  ∃ g ys,B=some ⟨g,0,none⟩∧g<w.heap.size∧w.rangeAt g (m*4) ys∧Zt N w (f.places[m]'hm).ds ys:=by
 obtain⟨_,_,_,_,e,_,_,_,B1,p1,_,_,rfl,n2,w2,d2,_⟩:=h;obtain⟨p,ys,q,rfl,hp,hd⟩:=pls_at d2 m hm;injection e with _ e;injection e with e;injection e with e;subst e;have hl:ys.length=4:=hd.len;obtain⟨g,rfl,hg,hc⟩:=w2.reads (by simp;omega);exact⟨g,ys,rfl,hg,Zhg hc hp,hd⟩
theorem sum_ge{α:Type}(k:α→Nat):∀(l:List α)(x:α),x ∈ l→k x≤(l.map k).sum
 |y::l,x,h=>by
  rcases List.mem_cons.1 h with rfl | h
  ·simp
  ·have:=sum_ge k l x h
   simp only[List.map_cons,List.sum_cons];omega
theorem sum_lenF{α:Type}(k:α→Nat):∀ l:List α,l.length≤(l.map fun x=>k x+1).sum
 |[]=>Nat.zero_le _
 |y::l=>by
  have:=sum_lenF k l;simp only[List.map_cons,List.sum_cons,List.length_cons];omega
theorem tCardF(w:World)(N:Nat→Prop)(c:Ca)(hv:VCa c)(hb:Vc (kCa c)≤1000000)(vs:List Value)(hd:Zt N w c.ds vs) :
  Calls Φ 7 #[.agg vs.toArray] w fun e y=>e=η (Ψ (Zml c))∧Below w.heap.size w y:=by
 have h:=tCard w N c hv vs hd (by unfold Yw;show 0+_≤_;omega);rw[puts_at (pk_ca hv),←rzCa_is hv,Zha]at h;exact h
theorem tCardF_small{c:Ca}(hv:VCa c)(hb:Vc (kCa c)≤1000000):(Zml c).size≤10000000000:=by
 have h:=puts_size (pk_ca hv);rw[size_of (rzCa_is hv)];omega
theorem tPlaceF(w:World)(N:Nat→Prop)(c:Pl)(hv:VPl c)(hb:Vc (kPl c)≤1000000)(vs:List Value)(hd:Zt N w c.ds vs) :
  Calls Φ 9 #[.agg vs.toArray] w fun e y=>e=η (Ψ (Zhc c))∧Below w.heap.size w y:=by
 have h:=topPlace w vs hd.len _ (fun x hb=>pPlace x N c hv vs (hd.below hb)) (by unfold Yw;show 0+_≤_;omega) (puts_ne (t:=wd Xs 2) (K:=[qN c.name]++Znz c.rules) (by decide +kernel));rw[puts_at (pk_pl hv),←rzPla_is hv,Zha]at h;exact h
theorem tPlaceF_small{c:Pl}(hv:VPl c)(hb:Vc (kPl c)≤1000000):(Zhc c).size≤10000000000:=by
 have h:=puts_size (pk_pl hv);rw[size_of (rzPla_is hv)];omega
theorem walk_UnparseFiles(s:ByteArray)(w:World)(hs:s.size≤maxLen):Calls Φ 3 #[Ψ s] w fun e w'=>e=η (.bool true)∧Below w.heap.size w w':=by
 unfold maxLen at hs;have T:=Hh (Env.start w);by_cases hle:4000<s.size
 ·go_enter Tryz.func3,Tryz.ntmps3
  go_wp2_with(go_at_call 5;refine(lives12 _).mono ?_;rintro e wn ⟨rfl,bn⟩;have T:=Hh (T.out.call bn);clear bn)
  go_ret;exact⟨rfl,T.out.below⟩
 have hle':s.size≤4000:=by omega
 obtain⟨f,E,F1,F2,hp⟩:∃(f:Fi)(E:Int)(F1 F2:Nat),Zms 3 s=(f,E,F1,F2):=⟨_,_,_,_,rfl⟩
 have hv:=parse_val 3 s (by omega);have hl:=parse_len 3 s (by omega);rw[hp]at hv hl;dsimp only at hv hl;obtain⟨nC,hC⟩:∃ n,n=f.cards.length:=⟨_,rfl⟩
 obtain⟨nP,hP⟩:∃ n,n=f.places.length:=⟨_,rfl⟩
 have hP1:=Hh (fun y=>(show Calls Φ 6 #[Ψ s] y (fun e w'=>∃(A B:Option Addr)(ca pb:Nat),e=η (.tuple #[.agg ([Λ A nC ca,Λ B nP pb]:List Value).toArray,.agg ([I J E,I J (F1:Int),I J (F2:Int)]:List Value).toArray])∧Zt (fun k=>y.heap.size≤k) w' f.ds [Λ A nC ca,Λ B nP pb]∧Below y.heap.size y w')from by
  have h:=qFile s y (by omega);rw[hp]at h;refine h.mono ?_;rintro e z ⟨vs,rfl,d,b⟩;obtain⟨A,ca,xs,_,rfl,hn,hw,hx,B,pb,ys,_,rfl,hk,hw2,hx2,rfl⟩:=id d;rw[hC,hP];exact⟨A,B,ca,pb,rfl,d,b⟩))
 clear hp;by_cases hE:¬ E=0
 ·have bE:(E != 0)=true:=by simpa using hE
  clear hC hP hv hl;go_enter Tryz.func3,Tryz.ntmps3;go_wp2_with(first
 |(go_at_call 6;(with_reducible refine(hP1.out _).mono ?_);rintro e wn ⟨A,B,ca,pb,rfl,d,bn⟩;have T:=Hh (T.out.tree bn d);clear bn d)
 |((with_reducible refine Zd 3 ?_);refine Zc T.out 26 _ rfl rfl z_fiF ?_;intro wn g3 tn;have T:=Hh tn;clear tn)
 |((with_reducible refine Zd 4 ?_);refine Zc T.out 29 _ rfl rfl z_faB ?_;intro wn g4 tn;have T:=Hh tn;clear tn)
 |((with_reducible refine Zi 3 14 ?_);refine Za 26 _ _ 26 g3 _ ([Λ A nC ca,Λ B nP pb]) (T.out.get 0 rfl) rfl Zim (by simp[Γ]) rfl rfl rfl rfl rfl ?_;intro wn p;have T:=Hh (T.out.put 0 rfl p);clear p)
 |((with_reducible refine Zi 4 15 ?_);refine Za 29 _ _ 29 g4 _ ([I J E,I J (F1:Int),I J (F2:Int)]) (T.out.get 1 rfl) rfl s_faB (by simp[Γ]) rfl rfl rfl rfl rfl ?_;intro wn p;have T:=Hh (T.out.put 1 rfl p);clear p;have c0:=T.out.cell 0 0 rfl rfl;have c1:=T.out.cell 0 1 rfl rfl;have c2:=T.out.cell 1 0 rfl rfl)
 |(go_at_call 5;refine(lives12 _).mono ?_;rintro e wn ⟨rfl,bn⟩;have T:=Hh (T.out.call bn);clear bn))
  go_ret;exact⟨rfl,T.out.below⟩
 have hE:E=0:=by omega
 subst hE
 have HL:Hid ((∀ c ∈ f.cards,Vc (kCa c)≤1000000)∧∀ c ∈ f.places,Vc (kPl c)≤1000000):=Hh (by
  unfold Zkx at hl;refine⟨fun c hc=>?_,fun c hc=>?_⟩
  ·have:=sum_ge (fun c=>Vc (kCa c)+1) f.cards c hc;omega
  ·have:=sum_ge (fun c=>Vc (kPl c)+1) f.places c hc;omega)
 have l63:(nC:Int)≤9223372036854775807∧(nP:Int)≤9223372036854775807:=by
  unfold Zkx at hl;have h1:=sum_lenF (fun c=>Vc (kCa c)) f.cards;have h2:=sum_lenF (fun c=>Vc (kPl c)) f.places;omega
 have k63:=l63.2;replace l63:=l63.1
 have hz:(rzFi f).size≤10000000000:=by
  rw[size_of (rzFi_is hv)];have:=lFi_len hv;omega
 obtain⟨F,hF⟩:∃ q,q=rzFi f:=⟨_,rfl⟩
 have HF1:=Hh (fun y vs (d:Zt (fun k=>w.heap.size≤k) y f.ds vs)=>(show Calls Φ 11 #[.agg vs.toArray] y (fun e y'=>e=η (Ψ F)∧Below y.heap.size y y')from by
  have h:=tFile y _ f hv vs d (by omega);rw[←str_of (rzFi_is hv),←hF]at h;exact h))
 have HF2:=Hh (fun y vs (d:Zt (fun k=>w.heap.size≤k) y f.ds vs)=>(show Calls Φ 12 #[.agg vs.toArray] y (fun e y'=>e=η (Ψ F)∧Below y.heap.size y y')from by
  have h:=rz_file y _ f hv vs d hz y (Below.refl _ _);rw[←hF]at h;exact h))
 have HV:=Hh hv;have HN0:=Hh hC;have HN1:=Hh hP;clear hv hl hz hF hC hP;go_enter Tryz.func3,Tryz.ntmps3;go_wp2_with(first
 |(go_at_call 6;(with_reducible refine(hP1.out _).mono ?_);rintro e wn ⟨A,B,ca,pb,rfl,d,bn⟩;have T:=Hh (T.out.tree bn d);clear bn d)
 |((with_reducible refine Zd 3 ?_);refine Zc T.out 26 _ rfl rfl z_fiF ?_;intro wn g3 tn;have T:=Hh tn;clear tn)
 |((with_reducible refine Zd 4 ?_);refine Zc T.out 29 _ rfl rfl z_faB ?_;intro wn g4 tn;have T:=Hh tn;clear tn)
 |((with_reducible refine Zi 3 14 ?_);refine Za 26 _ _ 26 g3 _ ([Λ A nC ca,Λ B nP pb]) (T.out.get 0 rfl) rfl Zim (by simp[Γ]) rfl rfl rfl rfl rfl ?_;intro wn p;have T:=Hh (T.out.put 0 rfl p);clear p)
 |((with_reducible refine Zi 4 15 ?_);refine Za 29 _ _ 29 g4 _ ([I J 0,I J (F1:Int),I J (F2:Int)]) (T.out.get 1 rfl) rfl s_faB (by simp[Γ]) rfl rfl rfl rfl rfl ?_;intro wn p;have T:=Hh (T.out.put 1 rfl p);clear p;have c0:=T.out.cell 0 0 rfl rfl;have c1:=T.out.cell 0 1 rfl rfl;have c2:=T.out.cell 1 0 rfl rfl))
 clear c0 c1 c2;go_loopw [5] (fun i wr=>∃ m:Nat,i=I J m∧m≤nC∧Env w [(g3,26,[Λ A nC ca,Λ B nP pb]),(g4,29,[I J 0,I J (F1:Int),I J (F2:Int)])] [] [(f.ds,[Λ A nC ca,Λ B nP pb])] wr) (fun i _=>nC - (intOf i).toNat)
 case atStart=>exact⟨0,by go_num,Nat.zero_le _,T.out⟩
 case round=>
  obtain⟨m,rfl,hm,hT⟩:=hrel;have T:=Hh hT;clear hT;have c0:=T.out.cell 0 0 rfl rfl;by_cases hlt:m<nC
  ·have hmf:m<f.cards.length:=by rw[←HN0.out];exact hlt
   obtain⟨g,ys,rfl,hg,hR,hy⟩:=fi_cardF (T.out.leaf 0 rfl) hmf;have hyl:ys.length=6:=by rw[hy.len];rfl
   have hq:=List.getElem_mem hmf;have H1:=Hh (fun y (b:Ext wr y)=>tCardF y _ (f.cards[m]'hmf) (HV.out.1 _ hq) (HL.out.1 _ hq) ys (hy.below b));have H2:=Hh (fun y (b:Ext wr y)=>rz_card wr _ (f.cards[m]'hmf) (HV.out.1 _ hq) ys hy (tCardF_small (HV.out.1 _ hq) (HL.out.1 _ hq)) y b);generalize Zml (f.cards[m]'hmf)=K at *;have HR:Hid (∀ y,Ext wr y→y.rangeAt g (m*6) ys):=Hh fun y b=>Zbg hR hg b
   have HYL:=Hh hyl;clear hR hy hyl hq hmf;have lk:(m:Int)<(nC:Int):=by omega
   go_upto_region 9 with fail
   clear c0;refine Xg (fun y=>Env w [(g3,26,[Λ (some ⟨g,0,none⟩) nC ca,Λ B nP pb]),(g4,29,[I J 0,I J (F1:Int),I J (F2:Int)])] [] [(f.ds,[Λ (some ⟨g,0,none⟩) nC ca,Λ B nP pb])] y∧Ext wr y) (by kernel_rfl) ⟨T.out.drew,⟨rfl,rfl,rfl,Θ _,fun _ _=>rfl⟩⟩ ?_;have hst:Zdp (fun y=>Env w [(g3,26,[Λ (some ⟨g,0,none⟩) nC ca,Λ B nP pb]),(g4,29,[I J 0,I J (F1:Int),I J (F2:Int)])] [] [(f.ds,[Λ (some ⟨g,0,none⟩) nC ca,Λ B nP pb])] y∧Ext wr y):=fun x y h e=>⟨Env.call h.1 e,Ext.trans h.2 e⟩
   refine AB.tk 0 (Ω (some ⟨g3,0,none⟩)) rfl rfl (by kernel_rfl) (fun _ _ _ h=>h) hst (Jy (by rfl) (fun y hy=>by go_simp)) ?_;simp only[Qy,Qx];refine AB.tk 1 (Λ (some ⟨g,0,none⟩) nC ca) rfl rfl (by kernel_rfl) (fun _ _ _ h=>h) hst (Jy (by rfl) (fun y hy=>by have c0:=Env.cell hy.1 0 0 rfl rfl;go_simp)) ?_;simp only[Qy,Qx];refine AB.tk 2 (I J (m:Int)) rfl rfl (by kernel_rfl) (fun _ _ _ h=>h) hst (Zgd (by rfl) rfl rfl) ?_;simp only[Qy,Qx];refine AB.tk 3 (Ω (some ⟨g,m*6,none⟩)) rfl rfl (by kernel_rfl) (fun _ _ _ h=>h) hst (Zge (by rfl) rfl rfl rfl hlt und_casF Zdm) ?_;simp only[Qy,Qx];refine AB.tk 4 (.agg ys.toArray) rfl rfl (by kernel_rfl) (fun _ _ _ h=>h) hst (Zee (by rfl) rfl rfl (fun y hy=>HR.out y hy.2) Zjm (by rw[HYL.out];exact Zdm)) ?_;simp only[Qy,Qx];refine AB.tk 5 (Ψ (K)) rfl rfl (by kernel_rfl) (fun _ _ _ h=>h) hst (Wx.callG (by rfl) (fun w=>by kernel_rfl) (fun y hy=>H1.out y hy.2)) ?_;simp only[Qy,Qx];refine AB.tk 6 (Ω (some ⟨g3,0,none⟩)) rfl rfl (by kernel_rfl) (fun _ _ _ h=>h) hst (Jy (by rfl) (fun y hy=>by go_simp)) ?_;simp only[Qy,Qx];refine AB.tk 7 (Λ (some ⟨g,0,none⟩) nC ca) rfl rfl (by kernel_rfl) (fun _ _ _ h=>h) hst (Jy (by rfl) (fun y hy=>by have c0:=Env.cell hy.1 0 0 rfl rfl;go_simp)) ?_;simp only[Qy,Qx];refine AB.tk 8 (I J (m:Int)) rfl rfl (by kernel_rfl) (fun _ _ _ h=>h) hst (Zgd (by rfl) rfl rfl) ?_;simp only[Qy,Qx];refine AB.tk 9 (Ω (some ⟨g,m*6,none⟩)) rfl rfl (by kernel_rfl) (fun _ _ _ h=>h) hst (Zge (by rfl) rfl rfl rfl hlt und_casF Zdm) ?_;simp only[Qy,Qx];refine AB.tk 10 (.agg ys.toArray) rfl rfl (by kernel_rfl) (fun _ _ _ h=>h) hst (Zee (by rfl) rfl rfl (fun y hy=>HR.out y hy.2) Zjm (by rw[HYL.out];exact Zdm)) ?_;simp only[Qy,Qx];refine AB.tk 11 (Ψ (K)) rfl rfl (by kernel_rfl) (fun _ _ _ h=>h) hst (Wx.callG (by rfl) (fun w=>by kernel_rfl) (fun y hy=>H2.out y hy.2)) ?_;simp only[Qy,Qx];refine AB.tk 12 (.bool false) rfl rfl (by kernel_rfl) (fun _ _ _ h=>h) hst (Jy (by rfl) (fun y hy=>by go_simp)) ?_;simp only[Qy,Qx];refine AB.done (by kernel_rfl) (fun wn hS=>?_);have T:=Hh hS;clear hS;go_wp2_with fail
   go_roundw
   case rel=>exact⟨m+1,by go_num,by omega,T.out.1⟩
   case measure=>simp[intOf];omega
  ·have lk:¬(m:Int)<(nC:Int):=by omega
   go_wp2_with fail
   clear c0 lk hlt hm;go_loopw [6] (fun i wr=>∃ m:Nat,i=I J m∧m≤nP∧Env w [(g3,26,[Λ A nC ca,Λ B nP pb]),(g4,29,[I J 0,I J (F1:Int),I J (F2:Int)])] [] [(f.ds,[Λ A nC ca,Λ B nP pb])] wr) (fun i _=>nP - (intOf i).toNat)
   case atStart=>exact⟨0,by go_num,Nat.zero_le _,T.out⟩
   case round=>
    obtain⟨m,rfl,hm,hT⟩:=hrel;have T:=Hh hT;clear hT;have c1:=T.out.cell 0 1 rfl rfl;by_cases hlt:m<nP
    ·have hmf:m<f.places.length:=by rw[←HN1.out];exact hlt
     obtain⟨g,ys,rfl,hg,hR,hy⟩:=fi_placeF (T.out.leaf 0 rfl) hmf;have hyl:ys.length=4:=by rw[hy.len];rfl
     have hq:=List.getElem_mem hmf;have H1:=Hh (fun y (b:Ext wr y)=>tPlaceF y _ (f.places[m]'hmf) (HV.out.2 _ hq) (HL.out.2 _ hq) ys (hy.below b));have H2:=Hh (fun y (b:Ext wr y)=>rz_place wr _ (f.places[m]'hmf) (HV.out.2 _ hq) ys hy (tPlaceF_small (HV.out.2 _ hq) (HL.out.2 _ hq)) y b);generalize Zhc (f.places[m]'hmf)=K at *;have HR:Hid (∀ y,Ext wr y→y.rangeAt g (m*4) ys):=Hh fun y b=>Zbg hR hg b
     have HYL:=Hh hyl;clear hR hy hyl hq hmf;have lk:(m:Int)<(nP:Int):=by omega
     go_upto_region 14 with fail
     clear c1;refine Xg (fun y=>Env w [(g3,26,[Λ A nC ca,Λ (some ⟨g,0,none⟩) nP pb]),(g4,29,[I J 0,I J (F1:Int),I J (F2:Int)])] [] [(f.ds,[Λ A nC ca,Λ (some ⟨g,0,none⟩) nP pb])] y∧Ext wr y) (by kernel_rfl) ⟨T.out.drew,⟨rfl,rfl,rfl,Θ _,fun _ _=>rfl⟩⟩ ?_;have hst:Zdp (fun y=>Env w [(g3,26,[Λ A nC ca,Λ (some ⟨g,0,none⟩) nP pb]),(g4,29,[I J 0,I J (F1:Int),I J (F2:Int)])] [] [(f.ds,[Λ A nC ca,Λ (some ⟨g,0,none⟩) nP pb])] y∧Ext wr y):=fun x y h e=>⟨Env.call h.1 e,Ext.trans h.2 e⟩
     refine AB.tk 0 (Ω (some ⟨g3,1,none⟩)) rfl rfl (by kernel_rfl) (fun _ _ _ h=>h) hst (Jy (by rfl) (fun y hy=>by go_simp)) ?_;simp only[Qy,Qx];refine AB.tk 1 (Λ (some ⟨g,0,none⟩) nP pb) rfl rfl (by kernel_rfl) (fun _ _ _ h=>h) hst (Jy (by rfl) (fun y hy=>by have c0:=Env.cell hy.1 0 1 rfl rfl;go_simp)) ?_;simp only[Qy,Qx];refine AB.tk 2 (I J (m:Int)) rfl rfl (by kernel_rfl) (fun _ _ _ h=>h) hst (Zgd (by rfl) rfl rfl) ?_;simp only[Qy,Qx];refine AB.tk 3 (Ω (some ⟨g,m*4,none⟩)) rfl rfl (by kernel_rfl) (fun _ _ _ h=>h) hst (Zge (by rfl) rfl rfl rfl hlt und_plsF Zdl) ?_;simp only[Qy,Qx];refine AB.tk 4 (.agg ys.toArray) rfl rfl (by kernel_rfl) (fun _ _ _ h=>h) hst (Zee (by rfl) rfl rfl (fun y hy=>HR.out y hy.2) Zjl (by rw[HYL.out];exact Zdl)) ?_;simp only[Qy,Qx];refine AB.tk 5 (Ψ (K)) rfl rfl (by kernel_rfl) (fun _ _ _ h=>h) hst (Wx.callG (by rfl) (fun w=>by kernel_rfl) (fun y hy=>H1.out y hy.2)) ?_;simp only[Qy,Qx];refine AB.tk 6 (Ω (some ⟨g3,1,none⟩)) rfl rfl (by kernel_rfl) (fun _ _ _ h=>h) hst (Jy (by rfl) (fun y hy=>by go_simp)) ?_;simp only[Qy,Qx];refine AB.tk 7 (Λ (some ⟨g,0,none⟩) nP pb) rfl rfl (by kernel_rfl) (fun _ _ _ h=>h) hst (Jy (by rfl) (fun y hy=>by have c0:=Env.cell hy.1 0 1 rfl rfl;go_simp)) ?_;simp only[Qy,Qx];refine AB.tk 8 (I J (m:Int)) rfl rfl (by kernel_rfl) (fun _ _ _ h=>h) hst (Zgd (by rfl) rfl rfl) ?_;simp only[Qy,Qx];refine AB.tk 9 (Ω (some ⟨g,m*4,none⟩)) rfl rfl (by kernel_rfl) (fun _ _ _ h=>h) hst (Zge (by rfl) rfl rfl rfl hlt und_plsF Zdl) ?_;simp only[Qy,Qx];refine AB.tk 10 (.agg ys.toArray) rfl rfl (by kernel_rfl) (fun _ _ _ h=>h) hst (Zee (by rfl) rfl rfl (fun y hy=>HR.out y hy.2) Zjl (by rw[HYL.out];exact Zdl)) ?_;simp only[Qy,Qx];refine AB.tk 11 (Ψ (K)) rfl rfl (by kernel_rfl) (fun _ _ _ h=>h) hst (Wx.callG (by rfl) (fun w=>by kernel_rfl) (fun y hy=>H2.out y hy.2)) ?_;simp only[Qy,Qx];refine AB.tk 12 (.bool false) rfl rfl (by kernel_rfl) (fun _ _ _ h=>h) hst (Jy (by rfl) (fun y hy=>by go_simp)) ?_;simp only[Qy,Qx];refine AB.done (by kernel_rfl) (fun wn hS=>?_);have T:=Hh hS;clear hS;go_wp2_with fail
     go_roundw
     case rel=>exact⟨m+1,by go_num,by omega,T.out.1⟩
     case measure=>simp[intOf];omega
    ·have lk:¬(m:Int)<(nP:Int):=by omega
     go_upto_region 16 with fail
     clear c1;refine Xg (fun y=>Env w [(g3,26,[Λ A nC ca,Λ B nP pb]),(g4,29,[I J 0,I J (F1:Int),I J (F2:Int)])] [] [(f.ds,[Λ A nC ca,Λ B nP pb])] y) (by kernel_rfl) T.out.drew ?_;have hst:Zdp (fun y=>Env w [(g3,26,[Λ A nC ca,Λ B nP pb]),(g4,29,[I J 0,I J (F1:Int),I J (F2:Int)])] [] [(f.ds,[Λ A nC ca,Λ B nP pb])] y):=fun x y h e=>Env.call h e
     refine AB.tk 0 (.agg ([Λ A nC ca,Λ B nP pb]:List Value).toArray) rfl rfl (by kernel_rfl) (fun _ _ _ h=>h) hst (Zee (by rfl) rfl rfl (fun y hy=>Ze.rangeF (Env.get hy 0 rfl)) Zqg Zim) ?_;simp only[Qy,Qx];refine AB.tk 1 (Ψ (F)) rfl rfl (by kernel_rfl) (fun _ _ _ h=>h) hst (Wx.callG (by rfl) (fun w=>by kernel_rfl) (fun y hy=>HF1.out y _ (Env.leaf hy 0 rfl))) ?_;simp only[Qy,Qx];refine AB.tk 2 (.agg ([Λ A nC ca,Λ B nP pb]:List Value).toArray) rfl rfl (by kernel_rfl) (fun _ _ _ h=>h) hst (Zee (by rfl) rfl rfl (fun y hy=>Ze.rangeF (Env.get hy 0 rfl)) Zqg Zim) ?_;simp only[Qy,Qx];refine AB.tk 3 (Ψ (F)) rfl rfl (by kernel_rfl) (fun _ _ _ h=>h) hst (Wx.callG (by rfl) (fun w=>by kernel_rfl) (fun y hy=>HF2.out y _ (Env.leaf hy 0 rfl))) ?_;simp only[Qy,Qx];refine AB.tk 4 (.bool true) rfl rfl (by kernel_rfl) (fun _ _ _ h=>h) hst (Jy (by rfl) (fun y hy=>by go_simp)) ?_;simp only[Qy,Qx];refine AB.tk 5 (.bool true) rfl rfl (by kernel_rfl) (fun _ _ _ h=>h) hst (Zgd (by rfl) rfl rfl) ?_;simp only[Qy,Qx];refine AB.tk 6 (.bool true) rfl rfl (by kernel_rfl) (fun _ _ _ h=>h) hst (Wx.callG (by rfl) (fun w=>by kernel_rfl) (fun y hy=>lives12 y)) ?_;simp only[Qy,Qx];refine AB.tk 7 (.bool true) rfl rfl (by kernel_rfl) (fun _ _ _ h=>h) hst (Jy (by rfl) (fun y hy=>by go_simp)) ?_;simp only[Qy,Qx];refine AB.tk 8 (.bool true) rfl rfl (by kernel_rfl) (fun _ _ _ h=>h) hst (Jy (by rfl) (fun y hy=>by go_simp)) ?_;simp only[Qy,Qx];refine AB.done (by kernel_rfl) (fun wn hS=>?_);have T:=Hh hS;clear hS;go_wp2_with fail
     go_ret;exact⟨rfl,T.out.below⟩
end Go.Proofs.YtdngkgickbaboaaGreat
