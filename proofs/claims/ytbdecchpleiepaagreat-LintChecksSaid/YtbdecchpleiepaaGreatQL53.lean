/- Parts of the proof. No conditions but those that each names. -/
import Derived.Test.YtbdecchpleiepaaGreatQL52
set_option maxRecDepth 20000
set_option maxHeartbeats 99000000
set_option linter.unusedVariables false
set_option linter.unusedSimpArgs false
namespace Go.Proofs.YtbdecchpleiepaaGreat
open Go.Value renaming int→I,slice→Λ,pointer→Ω,string→Ψ,oneCell'→Γ
open Go.IntKind renaming i64→J
open _root_.Go.Proofs.Tryz renaming prog→Φ
open Go.Ending renaming returned→η
open Go Go.RowKit
theorem twice_one(s:ByteArray):Jn (Ys [s]) = -1:=by
 unfold Jn;rw[show(Ys [s]).length=1 from by rw[Wr];rfl];have h:isF (Ys [s]) 0=true:=by simp[isF,Jw,Ua,Ys,List.findIdx_cons]
 simp[List.range_succ,h]
theorem mill_lint:Zkw millF=(24,1,22):=by
 show orF (Zay (Jn (Ys [])) 0 []) (Zao (Jn (Ys [_])) 0 _)=_;rw[twice_one];kernel_rfl
theorem Zjo(w:World):Calls Φ 5 #[] w fun e w'=>e=η (.bool true)∧Below w.heap.size w w':=by
 have T:=Hh (Env.start w)
 have hpa:∀ x,Calls Φ 15 #[Ψ ⟨#[112,108,97,99,101,32,34,77,105,108,108,34,32,123,32,101,110,100,32,123,32,100,114,97,119,32,109,105,110,101,32,49,59,32,125,32,125]⟩] x (fun e w'=>∃ vs:List Value,e=η (.tuple #[.agg vs.toArray,.agg #[I J 0,I J 0,I J 0]])∧Zs (fun k=>x.heap.size≤k) w' millF.ds vs∧Below x.heap.size x w'):=fun x=>by
  exact mill_parse x
 have hck:=fun x N vs h=>lCheck_any millF (by decide) (by decide) x N vs h
 rw[mill_lint]at hck;unfold faV at hck;dsimp only at hck;go_enter Tryz.func5,Tryz.ntmps5;go_wp2_with(first
 |(go_at_call 15;refine(hpa _).mono ?_;rintro e w1 ⟨vs,rfl,d1,b1⟩;obtain⟨v0,v1,rfl⟩:=Zgg vs d1.len;have O1:=Hh d1.one;have T:=Hh (T.out.tree b1 d1);clear d1 b1)
 |((with_reducible refine Zd 1 ?_);refine Zb T.out 26 _ rfl rfl z_fi ?_;intro wa g0 tn;have T:=Hh tn;clear tn)
 |((with_reducible refine Zd 2 ?_);refine Zb T.out 29 _ rfl rfl Wu ?_;intro wb g1 tn;have T:=Hh tn;clear tn)
 |((with_reducible refine Zg 1 5 ?_);refine Za 26 _ _ 26 g0 _ [v0,v1] (T.out.get 0 rfl) rfl Va O1.out rfl rfl rfl rfl rfl ?_;intro wc p;have T:=Hh (T.out.put 0 rfl p);clear p)
 |((with_reducible refine Zg 2 6 ?_);refine Za 29 _ _ 29 g1 _ ([I J 0,I J 0,I J 0]) (T.out.get 1 rfl) rfl Zj (by simp[Γ]) rfl rfl rfl rfl rfl ?_;intro wd p;have T:=Hh (T.out.put 1 rfl p);clear p;obtain⟨f0,f1,f2,_,_,_⟩:=Zo (T.out.get 1 rfl);obtain⟨j0,j1,_,_⟩:=Zhc (T.out.get 0 rfl))
 |(go_at_call 7;refine(hck _ _ [v0,v1] (T.out.leaf 0 rfl)).mono ?_;rintro e we ⟨rfl,bn⟩;have T:=Hh (T.out.call bn);clear bn))
 go_ret;exact⟨rfl,T.out.below⟩
theorem file_few(nk:Int)(L:List TokV):∀(n:Nat)(st:St),(Wk nk L n st).1.cards.length≤Zx L st∧(Wk nk L n st).1.places.length≤Zx L st
 |0,st=>by rw[Wk];exact⟨Nat.zero_le _,Nat.zero_le _⟩
 |n+1,st=>by
  have hle:Zk L Xp st≤2:=Zen L Xp st;have hr:=Vt (L:=L) (ws:=Xp) (st:=st);by_cases h0:Zk L Xp st=0
  ·rw[Zjs nk L n st h0];exact⟨Nat.zero_le _,Nat.zero_le _⟩
  ·have hr:=hr h0
   by_cases h1:Zk L Xp st=1
   ·rw[Zna nk L n st h1]
    have e1:=rem_card L nk n (st.tok L).line (st.tok L).col (Ye L Xp st);have e2:=file_few nk L n (Zft nk L n (st.tok L).line (st.tok L).col (Ye L Xp st)).2;dsimp only;rw[List.length_cons];omega
   ·rw[Zlb nk L n st (by omega)]
    have e1:=Zmu L nk n (st.tok L).line (st.tok L).col (Ye L Xp st);have e2:=file_few nk L n (Vj nk L n (st.tok L).line (st.tok L).col (Ye L Xp st)).2;dsimp only;rw[List.length_cons];omega
theorem parse_few(nk:Int)(s:ByteArray)(hs:s.size≤65536):(Zcn nk s).1.cards.length≤1000000∧(Zcn nk s).1.places.length≤1000000:=by
 have h1:=file_few nk (Wh s) (Zfi s) (Je s);have h2:=Zli s;have h3:=text_len s hs;unfold Zcn Zki;dsimp only;split
 ·omega
 ·exact⟨Nat.zero_le _,Nat.zero_le _⟩
end Go.Proofs.YtbdecchpleiepaaGreat
