/-
  No conditions but those that each theorem names.
-/
import Derived.Test.YtljdgdphldckhaaGreatQV43
set_option maxRecDepth 20000
set_option maxHeartbeats 12800000
namespace Go.Proofs.YtljdgdphldckhaaGreat
open Go Go.RowKit
set_option linter.unusedVariables false
set_option linter.unusedSimpArgs false
theorem Env.rowT{w x:World}{bs:List Bk}{v:Value}{e:TypeId}{sz n:Nat}{xs:List Value}{ts:List (Ds×List Value)}{ds:Ds}(h:Env w bs [⟨v,e,sz,n,xs⟩] ts x)(hd:∀ N y,Deep N y ds xs):Env w bs [] (ts++[(.row n ds .nil,[v])]) x:=by
 have ho:=h.row _ (List.mem_singleton.2 rfl);obtain⟨A,c,hv,hn,hw⟩:=own_within (show x.ownsRow w.heap.size e sz v n xs from ho);subst hv;have ha:=h.apart _ (List.mem_singleton.2 rfl);refine⟨h.at_,h.lo,h.nod,(fun r hr=>by cases hr),(fun r hr=>by cases hr),List.Pairwise.nil,fun u hu=>?_,h.below⟩;rcases List.mem_append.1 hu with hu | hu
 ·exact(h.deep u hu).mono fun k _ hk=>⟨hk.1,hk.2.1,(fun r hr=>by cases hr)⟩
 ·cases List.mem_singleton.1 hu
  refine⟨A,c,xs,[],rfl,hn,?_,hd _ _,rfl⟩;rcases hw with h0 | ⟨g,rfl,hb,hlt,hc⟩
  ·exact .inl h0
  ·exact .inr ⟨g,rfl,⟨hb,fun b hb2 e=>ha b hb2 (by rw[e];rfl),(fun r hr=>by cases hr)⟩,hlt,hc⟩
theorem lsize_cas:(Tryz.prog.info? 23).map (·.size)=some 1:=by kernel_rfl
theorem lsize_pls:(Tryz.prog.info? 24).map (·.size)=some 1:=by kernel_rfl
theorem lund_cas:Tryz.prog.underlying 23=some (.slice 35):=by kernel_rfl
theorem lund_pls:Tryz.prog.underlying 24=some (.slice 38):=by kernel_rfl
theorem linfo_ca:(Tryz.prog.info? 35).map (fun i=>(i.zero,i.size,i.bytes))=some (some (.agg #[.string ⟨#[]⟩,.int .i64 0,.int .i64 0,.int .i64 0,.int .i64 0,.slice none 0 0]),6,72):=by kernel_rfl
theorem linfo_pl:(Tryz.prog.info? 38).map (fun i=>(i.zero,i.size,i.bytes))=some (some (.agg #[.string ⟨#[]⟩,.int .i64 0,.int .i64 0,.slice none 0 0]),4,56):=by kernel_rfl
end Go.Proofs.YtljdgdphldckhaaGreat
