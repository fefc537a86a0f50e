/-
  No conditions but those that each theorem names.
-/
import Derived.RegionTactic
import Derived.Test.YtljdgdphldckhaaGreatQV8
set_option maxRecDepth 20000
set_option maxHeartbeats 12800000
namespace Go.Proofs.YtljdgdphldckhaaGreat
open Go.ChangeShapes Go.WideShapes Go.ChangeAt Go.RowKit
set_option linter.unusedVariables false
set_option linter.unusedSimpArgs false
structure Tri(w:World)(t:TypeId)(cs:Array Value)(u:TypeId)(ds:Array Value)(v:TypeId)(es:Array Value)(x:World):Prop where
 k0:Zb x w.heap.size t cs
 k1:Zb x (w.heap.size+1) u ds
 k2:Zb x (w.heap.size+2) v es
 below:Below w.heap.size w x
theorem Tri.start(w:World)(t:TypeId)(cs:Array Value)(u:TypeId)(ds:Array Value)(v:TypeId)(es:Array Value):Tri w t cs u ds v es (((w.alloc (.cells cs t)).alloc (.cells ds u)).alloc (.cells es v)):=by
 have h:=Two.start w t cs u ds;refine⟨h.k0.alloc _,h.k1.alloc _,?_,h.below.alloc h.below.size _⟩;have:=Zb.made ((w.alloc (.cells cs t)).alloc (.cells ds u)) v es;simpa using this
theorem Tri.next{w x y:World}{t u v:TypeId}{cs ds es:Array Value}(h:Tri w t cs u ds v es x)(hb:Below x.heap.size x y):Tri w t cs u ds v es y:=
 ⟨h.k0.below hb h.k0.inside,h.k1.below hb h.k1.inside,h.k2.below hb h.k2.inside,h.below.trans (hb.mono h.below.size)⟩
theorem Tri.drew{w x:World}{t u v:TypeId}{cs ds es:Array Value}(h:Tri w t cs u ds v es x):Tri w t cs u ds v es x.drew:=⟨h.k0,h.k1,h.k2,Jo h.below⟩
end Go.Proofs.YtljdgdphldckhaaGreat
