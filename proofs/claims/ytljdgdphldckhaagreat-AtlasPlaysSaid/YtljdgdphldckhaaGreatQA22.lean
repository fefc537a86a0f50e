/-
  Texts Pr4. No conditions but those that each theorem names.
-/
import Derived.Test.YtljdgdphldckhaaGreatQA15
import Derived.Test.YtljdgdphldckhaaGreatQA21
set_option maxRecDepth 20000
set_option maxHeartbeats 12800000
namespace Go.Proofs.YtljdgdphldckhaaGreat
open Go.ChangeShapes Go.WideShapes Go.ChangeAt Go.RowKit
set_option linter.unusedVariables false
set_option linter.unusedSimpArgs false
def kFls (l : List Fl) : List ByteArray := l.flatMap kFl
def kSel (s : Se) : List ByteArray :=
 if s.kind = 1 ∨ s.kind = 2 then [wd Uv s.kind] else [⟨#[40]⟩] ++ [wd Zt s.side, wd Wr s.wh] ++ (if s.wh = 3 then [putS s.lane] else []) ++ kFls s.fs ++ [wd wPick s.pick, ⟨#[41]⟩]
theorem sel_one (B : Nat) (w : World) (b : Nat) (a v : Value) (st : List Int × Bool) (k sd wh ln pk : Int) (fv : Value) (hk : k = 1 ∨ k = 2) (h : Uk 162 [.bool st.2] B w b a v st.1) (hB : B ≤ w.heap.size) (hl : st.1.length + lenB [wd Uv k] ≤ 10000000000) :
   Calls Tryz.prog 65 #[.pointer (some ⟨b, 0, none⟩), .agg #[.int .i64 k, .int .i64 sd, .int .i64 wh, .int .i64 ln, fv, .int .i64 pk]] w (FlPost B w b v (Zp st [wd Uv k])) := by
 have R0 := Hh (PrR.start h 46 [.int .i64 k, .int .i64 sd, .int .i64 wh, .int .i64 ln, fv, .int .i64 pk])
 have R1 := Hh (R0.out.next (Za _ (.cells (Zaf Uv) 9)))
 have HL := Hh hl
 have hk3 : (k != 3) = true := by rcases hk with rfl | rfl <;> decide
 have k1 : 1 ≤ k := by omega
 have k2 : k ≤ 3 := by omega
 clear h hl hk
 go_enter Tryz.func65, Tryz.ntmps65
 go_wp2_with (first
 | (go_at_call 117; refine (uWordL (w.alloc (.cells #[.int .i64 k, .int .i64 sd, .int .i64 wh, .int .i64 ln, fv, .int .i64 pk] 46)) k (w.heap.size + 1) 3 3 Uv (by simp) rfl k1 k2 (by decide)).mono ?_; rintro e w1 ⟨rfl, rfl⟩)
 | (go_at_call 107; refine (prPutB B ((w.alloc (.cells #[.int .i64 k, .int .i64 sd, .int .i64 wh, .int .i64 ln, fv, .int .i64 pk] 46)).alloc (.cells (Zaf Uv) 9)) b a v st [wd Uv k] (w.heap.size + 1 + 1) 1 1 R1.out.bd (Nat.le_trans hB R1.out.step.keeps.size) HL.out (by simp) (by simp) rfl).mono ?_; rintro e w7 ⟨rfl, a7, v7, h7, s7⟩
    have H7 := Hh (R1.out.write h7 s7)
    have q0 : w7.cell? ⟨w.heap.size, 0, none⟩ = some (.int .i64 k) := by rw [H7.out.box.read]; rfl
    clear h7 s7))
 refine bodyPost_ret (v := .tuple #[]) (by simp [results, Tryz.results65, go_sem]) rfl ?_
 exact ⟨rfl, a7, v7, H7.out.bd, H7.out.step⟩
end Go.Proofs.YtljdgdphldckhaaGreat
