/-
  The statement LintCounts: files of so many cards and locations. No conditions.
-/
import Derived.Test.YtabegjepejgllaaGreatQL54
namespace Go.Proofs.YtabegjepejgllaaGreat
open Go Go.RowKit
set_option linter.unusedVariables false
set_option linter.unusedSimpArgs false
set_option maxRecDepth 20000
set_option maxHeartbeats 6400000
theorem Env.rowT {w x : World} {bs : List Bk} {v : Value} {e : TypeId} {sz n : Nat} {xs : List Value} {ts : List (Ds × List Value)} {ds : Ds} (h : Env w bs [⟨v, e, sz, n, xs⟩] ts x) (hd : ∀ N y, Zi N y ds xs) : Env w bs [] (ts ++ [(.row n ds .nil, [v])]) x := by
  have ho := h.row _ (List.mem_singleton.2 rfl)
  obtain ⟨A, c, hv, hn, hw⟩ := own_within (show x.ownsRow w.heap.size e sz v n xs from ho)
  subst hv
  have ha := h.apart _ (List.mem_singleton.2 rfl)
  refine ⟨h.at_, h.lo, h.nod, (fun r hr => by cases hr), (fun r hr => by cases hr), List.Pairwise.nil, fun u hu => ?_, h.below⟩
  rcases List.mem_append.1 hu with hu | hu
  · exact (h.deep u hu).mono fun k _ hk => ⟨hk.1, hk.2.1, (fun r hr => by cases hr)⟩
  · cases List.mem_singleton.1 hu
    refine ⟨A, c, xs, [], rfl, hn, ?_, hd _ _, rfl⟩
    rcases hw with h0 | ⟨g, rfl, hb, hlt, hc⟩
    · exact .inl h0
    · exact .inr ⟨g, rfl, ⟨hb, fun b hb2 e => ha b hb2 (by rw [e]; rfl), (fun r hr => by cases hr)⟩, hlt, hc⟩
def nm2 (i : Nat) : ByteArray := strOfNums [97 + (i : Int) / 26, 97 + (i : Int) % 26]
def mkC (m : Nat) : List Ca := (List.range m).map fun i => ⟨nm2 i, 0, 0, (i : Int) + 1, 1, []⟩
def mkP (m : Nat) : List Pl := (List.range m).map fun i => ⟨nm2 i, 200 + (i : Int), 1, []⟩
def ceC (i : Nat) : List Value := [.string (nm2 i), .int .i64 0, .int .i64 0, .int .i64 ((i : Int) + 1), .int .i64 1, .slice none 0 0]
def ceP (i : Nat) : List Value := [.string (nm2 i), .int .i64 (200 + (i : Int)), .int .i64 1, .slice none 0 0]
def mkX (m : Nat) : List Value := (List.range m).flatMap ceC
def mkY (m : Nat) : List Value := (List.range m).flatMap ceP
theorem mkC_len (m : Nat) : (mkC m).length = m := by simp [mkC]
theorem mkP_len (m : Nat) : (mkP m).length = m := by simp [mkP]
theorem mkX_succ (m : Nat) : mkX (m + 1) = mkX m ++ ceC m := by simp [mkX, List.range_succ, List.flatMap_append]
theorem mkY_succ (m : Nat) : mkY (m + 1) = mkY m ++ ceP m := by simp [mkY, List.range_succ, List.flatMap_append]
theorem deep_mkC (N : Nat → Prop) (w : World) : ∀ m, Zi N w (casDs (mkC m)) (mkX m)
  | 0 => rfl
  | m + 1 => by
    rw [mkX_succ, show mkC (m + 1) = mkC m ++ [⟨nm2 m, 0, 0, (m : Int) + 1, 1, []⟩] from by simp [mkC, List.range_succ], casDs_snoc]
    have h : Zi N w (Ca.ds ⟨nm2 m, 0, 0, (m : Int) + 1, 1, []⟩) (ceC m) := ⟨_, rfl, _, rfl, _, rfl, _, rfl, _, rfl, none, 0, [], [], rfl, Nat.zero_le _, .inl rfl, rfl, rfl⟩
    exact Zi.app h (deep_mkC N w m)
theorem deep_mkP (N : Nat → Prop) (w : World) : ∀ m, Zi N w (plsDs (mkP m)) (mkY m)
  | 0 => rfl
  | m + 1 => by
    rw [mkY_succ, show mkP (m + 1) = mkP m ++ [⟨nm2 m, 200 + (m : Int), 1, []⟩] from by simp [mkP, List.range_succ], plsDs_snoc]
    have h : Zi N w (Pl.ds ⟨nm2 m, 200 + (m : Int), 1, []⟩) (ceP m) := ⟨_, rfl, _, rfl, _, rfl, none, 0, [], [], rfl, Nat.zero_le _, .inl rfl, rfl, rfl⟩
    exact Zi.app h (deep_mkP N w m)
theorem many_cards : ∀ c, c < 141 → lCards (-1) 0 (mkC c) = if 128 < c then (9, 129, 1) else (0, 0, 0) := by decide +kernel
theorem many_places : ∀ p, p < 41 → lPlaces (-1) 0 (mkP p) = if 32 < p then (9, 232, 1) else (0, 0, 0) := by decide +kernel
theorem nm2_inj {i j : Nat} (hi : i < 400) (hj : j < 400) (h : (nm2 i).toList = (nm2 j).toList) : i = j := by
  have h := strOfNums_eq _ _ (by intro x hx; simp at hx; omega) (by intro x hx; simp at hx; omega) (ba_eq.1 h)
  injection h with h1 h2
  injection h2 with h2 _
  omega
theorem twice_inj {n : Nat} (f : Nat → ByteArray) (hf : ∀ i j, i < n → j < n → (f i).toList = (f j).toList → i = j) : Vk (Yl ((List.range n).map f)) = -1 := by
  have hN : Yl ((List.range n).map f) = (List.range n).map fun i => (f i).toList := by simp [Yl]
  unfold Vk
  rw [hN]
  have hall : ∀ i, i < n → isF ((List.range n).map fun i => (f i).toList) i = true := fun i hi => by
    unfold isF Ve
    have hl : i < ((List.range n).map fun i => (f i).toList).length := by simpa using hi
    have e : ((List.range n).map fun i => (f i).toList).findIdx (· == Uj ((List.range n).map fun i => (f i).toList) i) = i := by
      rw [List.findIdx_eq hl]
      refine ⟨by simp [Uj, hi], fun j hj => ?_⟩
      have : ¬ (f j).toList = (f i).toList := fun c => by have := hf j i (by omega) hi c; omega
      simpa [Uj, hi] using this
    rw [e]; simp
  have : (List.range ((List.range n).map fun i => (f i).toList).length).find? (fun i => !isF ((List.range n).map fun i => (f i).toList) i) = none := by
    rw [List.find?_eq_none]
    intro i hi
    have hi : i < n := by simpa using hi
    simp [hall i hi]
  rw [this]
theorem count_lint (c p : Nat) (hc : c < 141) (hp : p < 41) : lCheck ⟨mkC c, mkP p⟩ = if 128 < c then (9, 129, 1) else if 32 < p then (9, 232, 1) else (0, 0, 0) := by
  unfold lCheck
  dsimp only
  have e1 : (mkC c).map Ca.name = (List.range c).map nm2 := by simp [mkC, Function.comp_def]
  have e2 : (mkP p).map Pl.name = (List.range p).map nm2 := by simp [mkP, Function.comp_def]
  rw [e1, e2, twice_inj nm2 (fun i j hi hj h => nm2_inj (by omega) (by omega) h), twice_inj nm2 (fun i j hi hj h => nm2_inj (by omega) (by omega) h), many_cards c hc, many_places p hp]
  unfold orF
  split <;> split <;> simp_all

theorem two_bytes (a b : Int) (w : World) : ∀ dst, Tryz.prog.underlying dst = some .string → (convert 73 dst (.slice (some ⟨w.heap.size, 0, none⟩) 2 2)).run Tryz.prog (w.alloc (.cells #[.int .u8 a, .int .u8 b] 5)) = .ok (.string (strOfNums [a, b])) (w.alloc (.cells #[.int .u8 a, .int .u8 b] 5)) := by
  refine run_convert_bytes_arg _ 73 5 (by kernel_rfl) (by kernel_rfl) w.heap.size 0 2 2 [a, b] rfl ?_
  intro i hi
  have hi : i < 2 := hi
  rcases (show i = 0 ∨ i = 1 by omega) with rfl | rfl <;> go_simp
theorem lsize_cas : (Tryz.prog.info? 23).map (·.size) = some 1 := by kernel_rfl
theorem lsize_pls : (Tryz.prog.info? 24).map (·.size) = some 1 := by kernel_rfl
theorem lund_cas : Tryz.prog.underlying 23 = some (.slice 35) := by kernel_rfl
theorem lund_pls : Tryz.prog.underlying 24 = some (.slice 38) := by kernel_rfl
theorem linfo_ca : (Tryz.prog.info? 35).map (fun i => (i.zero, i.size, i.bytes)) = some (some (.agg #[.string ⟨#[]⟩, .int .i64 0, .int .i64 0, .int .i64 0, .int .i64 0, .slice none 0 0]), 6, 72) := by kernel_rfl
theorem linfo_pl : (Tryz.prog.info? 38).map (fun i => (i.zero, i.size, i.bytes)) = some (some (.agg #[.string ⟨#[]⟩, .int .i64 0, .int .i64 0, .slice none 0 0]), 4, 56) := by kernel_rfl
theorem deep_two {N : Nat → Prop} {w : World} {c p : Nat} {u v : Value} (h1 : Zi N w (.row c (casDs (mkC c)) .nil) [u]) (h2 : Zi N w (.row p (plsDs (mkP p)) .nil) [v]) : Zi N w (Fi.ds ⟨mkC c, mkP p⟩) [u, v] := by
  show Zi N w (.row (mkC c).length (casDs (mkC c)) (.row (mkP p).length (plsDs (mkP p)) .nil)) [u, v]
  rw [mkC_len, mkP_len]
  exact Zi.app (x := .row c (casDs (mkC c)) .nil) h2 h1
theorem walk_LintCounts (c p : Int) (w : World) (h1 : (Lit.int .i64 c).wf = true) (h2 : (Lit.int .i64 p).wf = true) : Calls Tryz.prog 9 #[.int .i64 c, .int .i64 p] w fun e w' => e = .returned (.bool true) ∧ Below w.heap.size w w' := by
  clear h1 h2
  have T := Hh (Env.start w)
  have hli := fun x => lives13 x
  go_enter Tryz.func9, Tryz.ntmps9
  by_cases a1 : c < 0
  · go_wp2_with (go_at_call 32; refine (hli _).mono ?_; rintro e we ⟨rfl, bn⟩; have T := Hh (T.out.call bn); clear bn)
    go_ret
    exact ⟨rfl, T.out.below⟩
  by_cases a2 : 140 < c
  · go_wp2_with (go_at_call 32; refine (hli _).mono ?_; rintro e we ⟨rfl, bn⟩; have T := Hh (T.out.call bn); clear bn)
    go_ret
    exact ⟨rfl, T.out.below⟩
  by_cases a3 : p < 0
  · go_wp2_with (go_at_call 32; refine (hli _).mono ?_; rintro e we ⟨rfl, bn⟩; have T := Hh (T.out.call bn); clear bn)
    go_ret
    exact ⟨rfl, T.out.below⟩
  by_cases a4 : 40 < p
  · go_wp2_with (go_at_call 32; refine (hli _).mono ?_; rintro e we ⟨rfl, bn⟩; have T := Hh (T.out.call bn); clear bn)
    go_ret
    exact ⟨rfl, T.out.below⟩
  obtain ⟨c, rfl⟩ : ∃ k : Nat, c = k := ⟨c.toNat, by omega⟩
  obtain ⟨p, rfl⟩ : ∃ k : Nat, p = k := ⟨p.toNat, by omega⟩
  have hcl := fun x N vs h => lCheck_any ⟨mkC c, mkP p⟩ (by rw [mkC_len]; omega) (by rw [mkP_len]; omega) x N vs h
  rw [count_lint c p (by omega) (by omega)] at hcl
  have htb := two_bytes
  go_wp2_with (first
    | ((with_reducible refine Zg 5 ?_); refine wpList_allocE T.out 26 _ rfl rfl z_fi ?_; intro wa g1 tn; have T := Hh tn; clear tn)
    | ((with_reducible refine Zl 5 24 ?_); refine wpList_storeW 26 _ _ 26 g1 _ [.slice none 0 0, .slice none 0 0] (T.out.get 0 rfl) rfl size_fi (by simp [Value.oneCell']) rfl rfl rfl rfl rfl ?_; intro wd q; have T := Hh (T.out.put 0 rfl q); clear q))
  go_loopw [6] (fun i wy => ∃ (m : Nat) (V : Option Addr) (d : Nat), i = .int .i64 m ∧ m ≤ c ∧ Env w [(g1, 26, [.slice V m d, .slice none 0 0])] [⟨.slice V m d, 35, 6, m, mkX m⟩] [] wy) (fun i _ => c - (intOf i).toNat)
  case atStart => exact ⟨0, none, 0, by go_num, Nat.zero_le _, T.out.row1 35 6⟩
  case round =>
    obtain ⟨m, V, d, rfl, hm, hT⟩ := hrel
    have T := Hh hT
    clear hT
    obtain ⟨f0, f1, fz0, fz1⟩ := whole2 (T.out.get 0 rfl)
    by_cases hlt : m < c
    · have lk : (m : Int) < (c : Int) := by omega
      go_wp2_with (first
        | (at_builtin; refine wpList_pushL (.tmp 31) (.tmp 45) 23 35 6 72 _ lund_cas linfo_ca rfl (by decide) (by decide) w.heap.size (.slice V m d) m (mkX m) (ceC m) (((T.out.call (Za _ (.cells #[.int .u8 (97 + (m : Int) / 26), .int .u8 (97 + (m : Int) % 26)] 5))).call (Za _ (.cells (ceC m).toArray 35))).row _ (List.mem_singleton.2 rfl)) (wr.heap.size + 1) (made2 _ _ _ _) rfl (by simp [ceC, Value.oneCell']) (by omega) (by have := T.out.below.size; simp; omega) rfl rfl rfl rfl ?_; intro v9 w9 o9 g9 at9; obtain ⟨V9, d9, rfl, _⟩ := own_form o9; have T := Hh (((T.out.call (Za _ (.cells #[.int .u8 (97 + (m : Int) / 26), .int .u8 (97 + (m : Int) % 26)] 5))).call (Za _ (.cells (ceC m).toArray 35))).push o9 g9 at9); clear o9 g9 at9)
        | ((with_reducible refine Zl 47 46 ?_); refine wpList_store1 23 _ _ 26 g1 0 [] (.slice V m d) (.slice V9 (m + 1) d9) [.slice none 0 0] (T.out.get 0 rfl) rfl lsize_cas rfl rfl rfl rfl rfl rfl ?_; intro wd q; have T := Hh (T.out.put 0 rfl q); clear q))
      go_roundw
      case rel => exact ⟨m + 1, V9, d9, by go_num, by omega, by rw [mkX_succ]; exact T.out⟩
      case measure => simp [intOf]; omega
    · obtain rfl : m = c := by omega
      have T := Hh (Env.row1 (T.out.rowT (fun N y => deep_mkC N y m)) 38 4)
      go_wp2
      go_loopw [7] (fun i wy => ∃ (q : Nat) (U : Option Addr) (e : Nat), i = .int .i64 q ∧ q ≤ p ∧ Env w [(g1, 26, [.slice V m d, .slice U q e])] [⟨.slice U q e, 38, 4, q, mkY q⟩] [(.row m (casDs (mkC m)) .nil, [.slice V m d])] wy) (fun i _ => p - (intOf i).toNat)
      case atStart => exact ⟨0, none, 0, by go_num, Nat.zero_le _, T.out⟩
      case round =>
        obtain ⟨q, U, e, rfl, hq, hT⟩ := hrel
        have T := Hh hT
        clear hT
        obtain ⟨f0, f1, fz0, fz1⟩ := whole2 (T.out.get 0 rfl)
        by_cases hlt2 : q < p
        · have lk : (q : Int) < (p : Int) := by omega
          go_wp2_with (first
            | (at_builtin; refine wpList_pushL (.tmp 54) (.tmp 68) 24 38 4 56 _ lund_pls linfo_pl rfl (by decide) (by decide) w.heap.size (.slice U q e) q (mkY q) (ceP q) (((T.out.call (Za _ (.cells #[.int .u8 (97 + (q : Int) / 26), .int .u8 (97 + (q : Int) % 26)] 5))).call (Za _ (.cells (ceP q).toArray 38))).row _ (List.mem_singleton.2 rfl)) (wr.heap.size + 1) (made2 _ _ _ _) rfl (by simp [ceP, Value.oneCell']) (by omega) (by have := T.out.below.size; simp; omega) rfl rfl rfl rfl ?_; intro v9 w9 o9 g9 at9; obtain ⟨U9, e9, rfl, _⟩ := own_form o9; have T := Hh (((T.out.call (Za _ (.cells #[.int .u8 (97 + (q : Int) / 26), .int .u8 (97 + (q : Int) % 26)] 5))).call (Za _ (.cells (ceP q).toArray 38))).push o9 g9 at9); clear o9 g9 at9)
            | ((with_reducible refine Zl 70 69 ?_); refine wpList_store1 24 _ _ 26 g1 1 [.slice V m d] (.slice U q e) (.slice U9 (q + 1) e9) [] (T.out.get 0 rfl) rfl lsize_pls rfl rfl rfl rfl rfl rfl ?_; intro wd z; have T := Hh (T.out.put 0 rfl z); clear z))
          go_roundw
          case rel => exact ⟨q + 1, U9, e9, by go_num, by omega, by rw [mkY_succ]; exact T.out⟩
          case measure => simp [intOf]; omega
        · obtain rfl : q = p := by omega
          have T := Hh (show Env w _ [] [(.row m (casDs (mkC m)) .nil, [.slice V m d]), (.row q (plsDs (mkP q)) .nil, [.slice U q e])] _ from T.out.rowT (fun N y => deep_mkP N y q))
          by_cases hC : 128 < m
          · rw [if_pos hC] at hcl
            simp only [faV] at hcl
            have hC2 : (128 : Int) < (m : Int) := by omega
            by_cases hP : 32 < q
            · have hP2 : (32 : Int) < (q : Int) := by omega
              go_upto_region 17 with (first
                | ((with_reducible refine Zg 8 ?_); refine wpList_allocE T.out 29 _ rfl rfl Vs ?_; intro wa g2 tn; have T := Hh tn; clear tn)
                | ((with_reducible refine Zl 8 71 ?_); refine wpList_storeW 29 _ _ 29 g2 _ [.int .i64 0, .int .i64 0, .int .i64 0] (T.out.get 1 rfl) rfl Zj (by simp [Value.oneCell']) rfl rfl rfl rfl rfl ?_; intro wd z; have T := Hh (T.out.put 1 rfl z); clear z)
                | ((with_reducible refine Zl 8 74 ?_); refine wpList_storeW 29 _ _ 29 g2 _ [.int .i64 9, .int .i64 232, .int .i64 1] (T.out.get 1 rfl) rfl Zj (by simp [Value.oneCell']) rfl rfl rfl rfl rfl ?_; intro wd z; have T := Hh (T.out.put 1 rfl z); clear z)
                | ((with_reducible refine Zl 8 77 ?_); refine wpList_storeW 29 _ _ 29 g2 _ [.int .i64 9, .int .i64 129, .int .i64 1] (T.out.get 1 rfl) rfl Zj (by simp [Value.oneCell']) rfl rfl rfl rfl rfl ?_; intro wd z; have T := Hh (T.out.put 1 rfl z); clear z))
              have flat : ∀ x, Env w [(g1, 26, [.slice V m d, .slice U q e]), (g2, 29, [.int .i64 9, .int .i64 129, .int .i64 1])] [] [(.row m (casDs (mkC m)) .nil, [.slice V m d]), (.row q (plsDs (mkP q)) .nil, [.slice U q e])] x → Env w [(g1, 26, [.slice V m d, .slice U q e]), (g2, 29, [.int .i64 9, .int .i64 129, .int .i64 1])] [] [(.row m (casDs (mkC m)) .nil, [.slice V m d]), (.row q (plsDs (mkP q)) .nil, [.slice U q e])] x ∧ x.cell? ⟨g1, 0, none⟩ = some (.slice V m d) ∧ x.cell? ⟨g1, 1, none⟩ = some (.slice U q e) ∧ x.cell? ⟨g2, 0, none⟩ = some (.int .i64 9) ∧ x.cell? ⟨g2, 1, none⟩ = some (.int .i64 129) ∧ x.cell? ⟨g2, 2, none⟩ = some (.int .i64 1) := fun x h => ⟨h, (h.get 0 rfl).read 0, (h.get 0 rfl).read 1, (h.get 1 rfl).read 0, (h.get 1 rfl).read 1, (h.get 1 rfl).read 2⟩
              have hck : ∀ x, Env w [(g1, 26, [.slice V m d, .slice U q e]), (g2, 29, [.int .i64 9, .int .i64 129, .int .i64 1])] [] [(.row m (casDs (mkC m)) .nil, [.slice V m d]), (.row q (plsDs (mkP q)) .nil, [.slice U q e])] x → Calls Tryz.prog 33 #[.agg ([.slice V m d, .slice U q e] : List Value).toArray] x _ := fun x h => hcl x _ _ (deep_two (h.leaf 0 rfl) (h.leaf 1 rfl))
              go_region_held3 (fun x => Env w [(g1, 26, [.slice V m d, .slice U q e]), (g2, 29, [.int .i64 9, .int .i64 129, .int .i64 1])] [] [(.row m (casDs (mkC m)) .nil, [.slice V m d]), (.row q (plsDs (mkP q)) .nil, [.slice U q e])] x ∧ x.cell? ⟨g1, 0, none⟩ = some (.slice V m d) ∧ x.cell? ⟨g1, 1, none⟩ = some (.slice U q e) ∧ x.cell? ⟨g2, 0, none⟩ = some (.int .i64 9) ∧ x.cell? ⟨g2, 1, none⟩ = some (.int .i64 129) ∧ x.cell? ⟨g2, 2, none⟩ = some (.int .i64 1)) (first
                | assumption
                | exact flat _ T.out
                | exact flat _ T.out.drew
                | exact flat _ (Env.call (by first | assumption | exact And.left (by assumption)) bn)) (first
                | (go_at_call 33; refine (hck _ (by first | assumption | exact And.left (by assumption))).mono ?_; rintro e ww ⟨rfl, bn⟩)
                | (go_at_call 32; refine (hli _).mono ?_; rintro e ww ⟨rfl, bn⟩))
              all_goals
                have T9 : Env w [(g1, 26, [.slice V m d, .slice U q e]), (g2, 29, [.int .i64 9, .int .i64 129, .int .i64 1])] [] [(.row m (casDs (mkC m)) .nil, [.slice V m d]), (.row q (plsDs (mkP q)) .nil, [.slice U q e])] ww := by first | assumption | exact And.left (by assumption)
                go_wp2
                go_ret
                exact ⟨rfl, T9.below⟩
            · have hP2 : ¬ (32 : Int) < (q : Int) := by omega
              go_upto_region 17 with (first
                | ((with_reducible refine Zg 8 ?_); refine wpList_allocE T.out 29 _ rfl rfl Vs ?_; intro wa g2 tn; have T := Hh tn; clear tn)
                | ((with_reducible refine Zl 8 71 ?_); refine wpList_storeW 29 _ _ 29 g2 _ [.int .i64 0, .int .i64 0, .int .i64 0] (T.out.get 1 rfl) rfl Zj (by simp [Value.oneCell']) rfl rfl rfl rfl rfl ?_; intro wd z; have T := Hh (T.out.put 1 rfl z); clear z)
                | ((with_reducible refine Zl 8 74 ?_); refine wpList_storeW 29 _ _ 29 g2 _ [.int .i64 9, .int .i64 232, .int .i64 1] (T.out.get 1 rfl) rfl Zj (by simp [Value.oneCell']) rfl rfl rfl rfl rfl ?_; intro wd z; have T := Hh (T.out.put 1 rfl z); clear z)
                | ((with_reducible refine Zl 8 77 ?_); refine wpList_storeW 29 _ _ 29 g2 _ [.int .i64 9, .int .i64 129, .int .i64 1] (T.out.get 1 rfl) rfl Zj (by simp [Value.oneCell']) rfl rfl rfl rfl rfl ?_; intro wd z; have T := Hh (T.out.put 1 rfl z); clear z))
              have flat : ∀ x, Env w [(g1, 26, [.slice V m d, .slice U q e]), (g2, 29, [.int .i64 9, .int .i64 129, .int .i64 1])] [] [(.row m (casDs (mkC m)) .nil, [.slice V m d]), (.row q (plsDs (mkP q)) .nil, [.slice U q e])] x → Env w [(g1, 26, [.slice V m d, .slice U q e]), (g2, 29, [.int .i64 9, .int .i64 129, .int .i64 1])] [] [(.row m (casDs (mkC m)) .nil, [.slice V m d]), (.row q (plsDs (mkP q)) .nil, [.slice U q e])] x ∧ x.cell? ⟨g1, 0, none⟩ = some (.slice V m d) ∧ x.cell? ⟨g1, 1, none⟩ = some (.slice U q e) ∧ x.cell? ⟨g2, 0, none⟩ = some (.int .i64 9) ∧ x.cell? ⟨g2, 1, none⟩ = some (.int .i64 129) ∧ x.cell? ⟨g2, 2, none⟩ = some (.int .i64 1) := fun x h => ⟨h, (h.get 0 rfl).read 0, (h.get 0 rfl).read 1, (h.get 1 rfl).read 0, (h.get 1 rfl).read 1, (h.get 1 rfl).read 2⟩
              have hck : ∀ x, Env w [(g1, 26, [.slice V m d, .slice U q e]), (g2, 29, [.int .i64 9, .int .i64 129, .int .i64 1])] [] [(.row m (casDs (mkC m)) .nil, [.slice V m d]), (.row q (plsDs (mkP q)) .nil, [.slice U q e])] x → Calls Tryz.prog 33 #[.agg ([.slice V m d, .slice U q e] : List Value).toArray] x _ := fun x h => hcl x _ _ (deep_two (h.leaf 0 rfl) (h.leaf 1 rfl))
              go_region_held3 (fun x => Env w [(g1, 26, [.slice V m d, .slice U q e]), (g2, 29, [.int .i64 9, .int .i64 129, .int .i64 1])] [] [(.row m (casDs (mkC m)) .nil, [.slice V m d]), (.row q (plsDs (mkP q)) .nil, [.slice U q e])] x ∧ x.cell? ⟨g1, 0, none⟩ = some (.slice V m d) ∧ x.cell? ⟨g1, 1, none⟩ = some (.slice U q e) ∧ x.cell? ⟨g2, 0, none⟩ = some (.int .i64 9) ∧ x.cell? ⟨g2, 1, none⟩ = some (.int .i64 129) ∧ x.cell? ⟨g2, 2, none⟩ = some (.int .i64 1)) (first
                | assumption
                | exact flat _ T.out
                | exact flat _ T.out.drew
                | exact flat _ (Env.call (by first | assumption | exact And.left (by assumption)) bn)) (first
                | (go_at_call 33; refine (hck _ (by first | assumption | exact And.left (by assumption))).mono ?_; rintro e ww ⟨rfl, bn⟩)
                | (go_at_call 32; refine (hli _).mono ?_; rintro e ww ⟨rfl, bn⟩))
              all_goals
                have T9 : Env w [(g1, 26, [.slice V m d, .slice U q e]), (g2, 29, [.int .i64 9, .int .i64 129, .int .i64 1])] [] [(.row m (casDs (mkC m)) .nil, [.slice V m d]), (.row q (plsDs (mkP q)) .nil, [.slice U q e])] ww := by first | assumption | exact And.left (by assumption)
                go_wp2
                go_ret
                exact ⟨rfl, T9.below⟩
          · rw [if_neg hC] at hcl
            have hC2 : ¬ (128 : Int) < (m : Int) := by omega
            by_cases hP : 32 < q
            · rw [if_pos hP] at hcl
              simp only [faV] at hcl
              have hP2 : (32 : Int) < (q : Int) := by omega
              go_upto_region 17 with (first
                | ((with_reducible refine Zg 8 ?_); refine wpList_allocE T.out 29 _ rfl rfl Vs ?_; intro wa g2 tn; have T := Hh tn; clear tn)
                | ((with_reducible refine Zl 8 71 ?_); refine wpList_storeW 29 _ _ 29 g2 _ [.int .i64 0, .int .i64 0, .int .i64 0] (T.out.get 1 rfl) rfl Zj (by simp [Value.oneCell']) rfl rfl rfl rfl rfl ?_; intro wd z; have T := Hh (T.out.put 1 rfl z); clear z)
                | ((with_reducible refine Zl 8 74 ?_); refine wpList_storeW 29 _ _ 29 g2 _ [.int .i64 9, .int .i64 232, .int .i64 1] (T.out.get 1 rfl) rfl Zj (by simp [Value.oneCell']) rfl rfl rfl rfl rfl ?_; intro wd z; have T := Hh (T.out.put 1 rfl z); clear z)
                | ((with_reducible refine Zl 8 77 ?_); refine wpList_storeW 29 _ _ 29 g2 _ [.int .i64 9, .int .i64 129, .int .i64 1] (T.out.get 1 rfl) rfl Zj (by simp [Value.oneCell']) rfl rfl rfl rfl rfl ?_; intro wd z; have T := Hh (T.out.put 1 rfl z); clear z))
              have flat : ∀ x, Env w [(g1, 26, [.slice V m d, .slice U q e]), (g2, 29, [.int .i64 9, .int .i64 232, .int .i64 1])] [] [(.row m (casDs (mkC m)) .nil, [.slice V m d]), (.row q (plsDs (mkP q)) .nil, [.slice U q e])] x → Env w [(g1, 26, [.slice V m d, .slice U q e]), (g2, 29, [.int .i64 9, .int .i64 232, .int .i64 1])] [] [(.row m (casDs (mkC m)) .nil, [.slice V m d]), (.row q (plsDs (mkP q)) .nil, [.slice U q e])] x ∧ x.cell? ⟨g1, 0, none⟩ = some (.slice V m d) ∧ x.cell? ⟨g1, 1, none⟩ = some (.slice U q e) ∧ x.cell? ⟨g2, 0, none⟩ = some (.int .i64 9) ∧ x.cell? ⟨g2, 1, none⟩ = some (.int .i64 232) ∧ x.cell? ⟨g2, 2, none⟩ = some (.int .i64 1) := fun x h => ⟨h, (h.get 0 rfl).read 0, (h.get 0 rfl).read 1, (h.get 1 rfl).read 0, (h.get 1 rfl).read 1, (h.get 1 rfl).read 2⟩
              have hck : ∀ x, Env w [(g1, 26, [.slice V m d, .slice U q e]), (g2, 29, [.int .i64 9, .int .i64 232, .int .i64 1])] [] [(.row m (casDs (mkC m)) .nil, [.slice V m d]), (.row q (plsDs (mkP q)) .nil, [.slice U q e])] x → Calls Tryz.prog 33 #[.agg ([.slice V m d, .slice U q e] : List Value).toArray] x _ := fun x h => hcl x _ _ (deep_two (h.leaf 0 rfl) (h.leaf 1 rfl))
              go_region_held3 (fun x => Env w [(g1, 26, [.slice V m d, .slice U q e]), (g2, 29, [.int .i64 9, .int .i64 232, .int .i64 1])] [] [(.row m (casDs (mkC m)) .nil, [.slice V m d]), (.row q (plsDs (mkP q)) .nil, [.slice U q e])] x ∧ x.cell? ⟨g1, 0, none⟩ = some (.slice V m d) ∧ x.cell? ⟨g1, 1, none⟩ = some (.slice U q e) ∧ x.cell? ⟨g2, 0, none⟩ = some (.int .i64 9) ∧ x.cell? ⟨g2, 1, none⟩ = some (.int .i64 232) ∧ x.cell? ⟨g2, 2, none⟩ = some (.int .i64 1)) (first
                | assumption
                | exact flat _ T.out
                | exact flat _ T.out.drew
                | exact flat _ (Env.call (by first | assumption | exact And.left (by assumption)) bn)) (first
                | (go_at_call 33; refine (hck _ (by first | assumption | exact And.left (by assumption))).mono ?_; rintro e ww ⟨rfl, bn⟩)
                | (go_at_call 32; refine (hli _).mono ?_; rintro e ww ⟨rfl, bn⟩))
              all_goals
                have T9 : Env w [(g1, 26, [.slice V m d, .slice U q e]), (g2, 29, [.int .i64 9, .int .i64 232, .int .i64 1])] [] [(.row m (casDs (mkC m)) .nil, [.slice V m d]), (.row q (plsDs (mkP q)) .nil, [.slice U q e])] ww := by first | assumption | exact And.left (by assumption)
                go_wp2
                go_ret
                exact ⟨rfl, T9.below⟩
            · rw [if_neg hP] at hcl
              simp only [faV] at hcl
              have hP2 : ¬ (32 : Int) < (q : Int) := by omega
              go_upto_region 17 with (first
                | ((with_reducible refine Zg 8 ?_); refine wpList_allocE T.out 29 _ rfl rfl Vs ?_; intro wa g2 tn; have T := Hh tn; clear tn)
                | ((with_reducible refine Zl 8 71 ?_); refine wpList_storeW 29 _ _ 29 g2 _ [.int .i64 0, .int .i64 0, .int .i64 0] (T.out.get 1 rfl) rfl Zj (by simp [Value.oneCell']) rfl rfl rfl rfl rfl ?_; intro wd z; have T := Hh (T.out.put 1 rfl z); clear z)
                | ((with_reducible refine Zl 8 74 ?_); refine wpList_storeW 29 _ _ 29 g2 _ [.int .i64 9, .int .i64 232, .int .i64 1] (T.out.get 1 rfl) rfl Zj (by simp [Value.oneCell']) rfl rfl rfl rfl rfl ?_; intro wd z; have T := Hh (T.out.put 1 rfl z); clear z)
                | ((with_reducible refine Zl 8 77 ?_); refine wpList_storeW 29 _ _ 29 g2 _ [.int .i64 9, .int .i64 129, .int .i64 1] (T.out.get 1 rfl) rfl Zj (by simp [Value.oneCell']) rfl rfl rfl rfl rfl ?_; intro wd z; have T := Hh (T.out.put 1 rfl z); clear z))
              have flat : ∀ x, Env w [(g1, 26, [.slice V m d, .slice U q e]), (g2, 29, [.int .i64 0, .int .i64 0, .int .i64 0])] [] [(.row m (casDs (mkC m)) .nil, [.slice V m d]), (.row q (plsDs (mkP q)) .nil, [.slice U q e])] x → Env w [(g1, 26, [.slice V m d, .slice U q e]), (g2, 29, [.int .i64 0, .int .i64 0, .int .i64 0])] [] [(.row m (casDs (mkC m)) .nil, [.slice V m d]), (.row q (plsDs (mkP q)) .nil, [.slice U q e])] x ∧ x.cell? ⟨g1, 0, none⟩ = some (.slice V m d) ∧ x.cell? ⟨g1, 1, none⟩ = some (.slice U q e) ∧ x.cell? ⟨g2, 0, none⟩ = some (.int .i64 0) ∧ x.cell? ⟨g2, 1, none⟩ = some (.int .i64 0) ∧ x.cell? ⟨g2, 2, none⟩ = some (.int .i64 0) := fun x h => ⟨h, (h.get 0 rfl).read 0, (h.get 0 rfl).read 1, (h.get 1 rfl).read 0, (h.get 1 rfl).read 1, (h.get 1 rfl).read 2⟩
              have hck : ∀ x, Env w [(g1, 26, [.slice V m d, .slice U q e]), (g2, 29, [.int .i64 0, .int .i64 0, .int .i64 0])] [] [(.row m (casDs (mkC m)) .nil, [.slice V m d]), (.row q (plsDs (mkP q)) .nil, [.slice U q e])] x → Calls Tryz.prog 33 #[.agg ([.slice V m d, .slice U q e] : List Value).toArray] x _ := fun x h => hcl x _ _ (deep_two (h.leaf 0 rfl) (h.leaf 1 rfl))
              go_region_held3 (fun x => Env w [(g1, 26, [.slice V m d, .slice U q e]), (g2, 29, [.int .i64 0, .int .i64 0, .int .i64 0])] [] [(.row m (casDs (mkC m)) .nil, [.slice V m d]), (.row q (plsDs (mkP q)) .nil, [.slice U q e])] x ∧ x.cell? ⟨g1, 0, none⟩ = some (.slice V m d) ∧ x.cell? ⟨g1, 1, none⟩ = some (.slice U q e) ∧ x.cell? ⟨g2, 0, none⟩ = some (.int .i64 0) ∧ x.cell? ⟨g2, 1, none⟩ = some (.int .i64 0) ∧ x.cell? ⟨g2, 2, none⟩ = some (.int .i64 0)) (first
                | assumption
                | exact flat _ T.out
                | exact flat _ T.out.drew
                | exact flat _ (Env.call (by first | assumption | exact And.left (by assumption)) bn)) (first
                | (go_at_call 33; refine (hck _ (by first | assumption | exact And.left (by assumption))).mono ?_; rintro e ww ⟨rfl, bn⟩)
                | (go_at_call 32; refine (hli _).mono ?_; rintro e ww ⟨rfl, bn⟩))
              all_goals
                have T9 : Env w [(g1, 26, [.slice V m d, .slice U q e]), (g2, 29, [.int .i64 0, .int .i64 0, .int .i64 0])] [] [(.row m (casDs (mkC m)) .nil, [.slice V m d]), (.row q (plsDs (mkP q)) .nil, [.slice U q e])] ww := by first | assumption | exact And.left (by assumption)
                go_wp2
                go_ret
                exact ⟨rfl, T9.below⟩
end Go.Proofs.YtabegjepejgllaaGreat
