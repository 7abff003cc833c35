
/- Square tables of numbers, and categories within the limits: the model's and the program's tests. -/
import Derived.Test.YtbfenibkbmkcaabShort
import Derived.Test.YtbfenibkbmkcaabEnts
import Derived.Test.YtbfenibkbmkcaabOwnL
set_option linter.unusedSimpArgs false
set_option linter.unusedVariables false
set_option linter.unusedSectionVars false
namespace Go.Proofs.Ytbfenibkbmkcaab
open Go.RowKit


def RowOk (rows : List (List Int)) (b : Int) (i : Nat) : Prop := (row2 rows (i : Int)).length = rows.length ∧ AllP b (row2 rows (i : Int))
def SquareP (rows : List (List Int)) (b : Int) : Prop := ∀ i : Nat, i < rows.length → RowOk rows b i
theorem allP_to {b : Int} {xs : List Int} (h : ∀ j : Nat, j < xs.length → 0 ≤ at0 xs (j : Int) ∧ at0 xs (j : Int) < b) : AllP b xs := fun x hx => by
 obtain ⟨j, hj, rfl⟩ := List.getElem_of_mem hx
 have := h j hj
 rwa [at0_nat, List.getD_eq_getElem?_getD, List.getElem?_eq_getElem hj] at this
theorem allP_not {b : Int} {xs : List Int} {j : Nat} (hj : j < xs.length) (h : ¬ (0 ≤ at0 xs (j : Int) ∧ at0 xs (j : Int) < b)) : ¬ AllP b xs := fun ha => h (allP_at ha hj)
theorem sq_at {rows : List (List Int)} {b : Int} (h : SquareP rows b) {i j : Nat} (hi : i < rows.length) (hj : j < rows.length) : 0 ≤ at0 (row2 rows (i : Int)) (j : Int) ∧ at0 (row2 rows (i : Int)) (j : Int) < b :=
 allP_at (h i hi).2 (by rw [(h i hi).1]; exact hj)
def FitP (c : Cat) : Prop := c.ob ≤ 8 ∧ c.s.length ≤ 40

set_option maxHeartbeats 1000000 in
set_option maxRecDepth 100000 in
theorem specSquare_any (w : World) (u : Value) (rows : List (List Int)) (b : Int) (hu : Rd2 w u rows) :
  Calls Try.prog 34 #[u, .int .i64 b] w (RetB w (bP (SquareP rows b))) := by
 obtain ⟨ua, uc, rfl⟩ := rd2_form hu
 have hul := rd2_len hu
 go_enter Try.func34, Try.ntmps34
 refine gc_enter (N := 29) rfl (look_cons (k := 0) rfl (look_cons (k := 1) rfl (look_nil _))) ?_
 refine gc_sr fun K1 hK1 => ?_
 refine gas ?_
 refine gnt (hK1 _ _ ?_)
 refine gc_seq fun K2 hK2 => ?_
 refine gc_sr fun K3 hK3 => ?_
 refine gas ?_
 refine gnt (hK3 _ _ ?_)
 refine gc_block ?_
 try simp only [sL]
 refine gc_loopT ([(0, _), (1, _)] : Env) (fun s : Nat => (fun (k : Nat) => (([(5, .int .i64 (k : Int))] : Env), ([] : List (Nat × Itm)), k ≤ rows.length ∧ ∀ j : Nat, j < k → RowOk rows b j, rows.length - k)) s) (0) (by repeat first | exact sub_nil | refine sub_cons rfl ?_) rfl ⟨Nat.zero_le _, fun f hf => absurd hf (by omega)⟩ ?_
 rintro k hinv KL4 hKL4
 simp only [sU, sL] at hinv hKL4 ⊢
 obtain ⟨hk, hall⟩ := hinv
 refine gc_seq fun K5 hK5 => ?_
 refine gc_sr fun K6 hK6 => ?_
 refine gm ?_
 refine gm ?_
 refine gv (qt_len rfl rfl ulE2 (fun w M => lenV_rd2 hu)) ?_
 refine gv (qt_lss rfl rfl rfl) ?_
 refine gnt (hK6 _ _ ?_)
 refine gc_cond rfl (fun hc0 => ?_) (fun hc0 => ?_)
 ·try simp only [sA] at hc0
  refine gc_skip ?_
  refine gk_then (hK5 _ _ ?_)
  refine gc_seq fun K7 hK7 => ?_
  refine gc_block ?_
  refine gc_sr fun K8 hK8 => ?_
  refine gm ?_
  refine gm ?_
  refine gv (qti2 (fun w M => lenA_rd2 hu)) ?_
  refine g_load2 (.free rfl) rfl rfl rfl rfl Try.underlying22 rfl hu (by omega) (by omega) ?_
  intro ra9 rc9 hr9
  refine gv (qln (fun w M => lenV_rd hr9)) ?_
  refine gm ?_
  refine gv (qt_len rfl rfl ulE2 (fun w M => lenV_rd2 hu)) ?_
  refine gv (qt_neq rfl rfl rfl) ?_
  refine g_splitv (.free rfl) rfl rfl (qt_move rfl rfl) (fun hs4_8 => ?_) (fun hs4_8 => ?_)
  ·try simp only [sA] at hs4_8
   refine gsk ?_
   refine gsk ?_
   refine gsk ?_
   refine gsk ?_
   refine gsk ?_
   refine gsk ?_
   refine gsk ?_
   refine gv (qt_pick_t rfl rfl rfl) ?_
   refine gnt (hK8 _ _ ?_)
   refine gc_cond_t rfl ?_
   refine gc_sr fun K10 hK10 => ?_
   refine gas ?_
   refine gnt (hK10 _ _ ?_)
   refine gc_ret ?_
   refine gk_block_ret ?_
   refine gk_then_ret ?_
   refine gk_then_ret ?_
   refine gk_block_ret ?_
   refine gk_then_ret ?_
   refine ret_1 rfl rfl  (fun w M => ?_)
   rw [bP_f (fun h : SquareP rows b => by have := (h k (by omega)).1; omega)]; exact ⟨rfl, M.1⟩
  ·try simp only [sA] at hs4_8
   refine gvh (qt_move rfl rfl) ?_
   refine gvh (qt_move rfl rfl) ?_
   refine gvh (qt_move rfl rfl) ?_
   refine gvh (qti2 (fun w M => lenA_rd2 hu)) ?_
   refine g_load2 (.held _ _ _ rfl rfl rfl) rfl rfl rfl rfl Try.underlying22 rfl hu (by omega) (by omega) ?_
   intro ra11 rc11 hr11
   refine g_q (.held _ _ _ rfl rfl rfl) rfl rfl (qt_call rfl Try.func59 rfl (by decide) rfl (fun w M => specMap_any w _ _ _ _ (mem_rd M hr11) rfl)) ?_
   refine gvh (qt_not rfl rfl) ?_
   refine gv (qt_pick_f rfl rfl rfl) ?_
   refine gnt (hK8 _ _ ?_)
   refine gc_cond rfl (fun hc1 => ?_) (fun hc1 => ?_)
   ·try simp only [sA] at hc1
    refine gc_sr fun K12 hK12 => ?_
    refine gas ?_
    refine gnt (hK12 _ _ ?_)
    refine gc_ret ?_
    refine gk_block_ret ?_
    refine gk_then_ret ?_
    refine gk_then_ret ?_
    refine gk_block_ret ?_
    refine gk_then_ret ?_
    refine ret_1 rfl rfl  (fun w M => ?_)
    rw [bP_f (fun h : SquareP rows b => hc1 (h k (by omega)).2)]; exact ⟨rfl, M.1⟩
   ·try simp only [sA] at hc1
    refine gc_skip ?_
    refine gk_block ?_
    refine gk_then (hK7 _ _ ?_)
    refine gc_region ?_
    refine gm ?_
    refine gv (qt_add rfl rfl rfl (by omega)) ?_
    refine gas ?_
    refine g_nil ?_
    refine gk_then (gk_take 0 ?_)
    refine gk_sub ?hs_13 (hKL4 (k + 1) ?hi_13 ?hm_13)
    case hs_13 => repeat first | exact sub_nil | refine sub_cons rfl ?_
    case hi_13 => exact ⟨by omega, all_next hall ⟨by omega, hc1⟩⟩
    case hm_13 => omega
 ·try simp only [sA] at hc0
  refine gc_exit ?_
  refine gk_then_exit ?_
  refine gk_then_exit ?_
  refine gk_block_hit ?_
  refine gk_then (hK2 _ _ ?_)
  refine gc_sr fun K14 hK14 => ?_
  refine gas ?_
  refine gnt (hK14 _ _ ?_)
  refine gc_ret ?_
  refine ret_1 rfl rfl  (fun w M => ?_)
  obtain rfl : k = rows.length := by omega
  rw [bP_t (show SquareP rows b from hall)]; exact ⟨rfl, M.1⟩

set_option maxHeartbeats 1000000 in
set_option maxRecDepth 100000 in
theorem isSquare_any (w : World) (u : Value) (rows : List (List Int)) (b : Int) (hu : Rd2 w u rows) :
  Calls Try.prog 61 #[u, .int .i64 b] w (RetB w (bP (SquareP rows (b + 1)))) := by
 obtain ⟨ua, uc, rfl⟩ := rd2_form hu
 have hul := rd2_len hu
 go_enter Try.func61, Try.ntmps61
 refine gc_enter (N := 35) rfl (look_cons (k := 0) rfl (look_cons (k := 1) rfl (look_nil _))) ?_
 refine gc_sr fun K1 hK1 => ?_
 refine gas ?_
 refine gnt (hK1 _ _ ?_)
 refine gc_seq fun K2 hK2 => ?_
 refine gc_sr fun K3 hK3 => ?_
 refine gm ?_
 refine gv (qt_len rfl rfl ulE2 (fun w M => lenV_rd2 hu)) ?_
 refine gm ?_
 refine gnt (hK3 _ _ ?_)
 refine gc_block ?_
 try simp only [sL]
 refine gc_loopT ([(0, _), (1, _), (9, _), (10, _)] : Env) (fun s : Nat => (fun (k : Nat) => (([(11, .int .i64 (k : Int))] : Env), ([] : List (Nat × Itm)), k ≤ rows.length ∧ ∀ j : Nat, j < k → RowOk rows (b + 1) j, rows.length - k)) s) (0) (by repeat first | exact sub_nil | refine sub_cons rfl ?_) rfl ⟨Nat.zero_le _, fun f hf => absurd hf (by omega)⟩ ?_
 rintro k hinv KL4 hKL4
 simp only [sU, sL] at hinv hKL4 ⊢
 obtain ⟨hk, hall⟩ := hinv
 refine gc_sr fun K5 hK5 => ?_
 refine gv (qt_lss rfl rfl rfl) ?_
 refine gnt (hK5 _ _ ?_)
 refine gc_seq fun K6 hK6 => ?_
 refine gc_cond rfl (fun hc0 => ?_) (fun hc0 => ?_)
 ·try simp only [sA] at hc0
  refine gc_skip ?_
  refine gk_then (hK6 _ _ ?_)
  refine gc_seq fun K7 hK7 => ?_
  refine gc_block ?_
  refine gc_sr fun K8 hK8 => ?_
  refine gv (qti2 (fun w M => lenA_rd2 hu)) ?_
  refine g_load2 (.free rfl) rfl rfl rfl rfl Try.underlying22 rfl hu (by omega) (by omega) ?_
  intro ra9 rc9 hr9
  refine gas ?_
  refine gnt (hK8 _ _ ?_)
  refine gc_seq fun K10 hK10 => ?_
  refine gc_sr fun K11 hK11 => ?_
  refine gm ?_
  refine gv (qln (fun w M => lenV_rd hr9)) ?_
  refine gm ?_
  refine gv (qt_len rfl rfl ulE2 (fun w M => lenV_rd2 hu)) ?_
  refine gv (qt_neq rfl rfl rfl) ?_
  refine gnt (hK11 _ _ ?_)
  refine gc_cond rfl (fun hc1 => ?_) (fun hc1 => ?_)
  ·try simp only [sA] at hc1
   refine gc_sr fun K12 hK12 => ?_
   refine gas ?_
   refine gnt (hK12 _ _ ?_)
   refine gc_ret ?_
   refine gk_then_ret ?_
   refine gk_block_ret ?_
   refine gk_then_ret ?_
   refine gk_then_ret ?_
   refine gk_block_ret ?_
   refine gk_then_ret ?_
   refine ret_1 rfl rfl  (fun w M => ?_)
   rw [bP_f (fun h : SquareP rows (b + 1) => by have := (h k (by omega)).1; omega)]; exact ⟨rfl, M.1⟩
  ·try simp only [sA] at hc1
   refine gc_skip ?_
   refine gk_then (hK10 _ _ ?_)
   refine gc_sr fun K13 hK13 => ?_
   refine gm ?_
   refine gv (qln (fun w M => lenV_rd hr9)) ?_
   refine gm ?_
   refine gnt (hK13 _ _ ?_)
   refine gc_block ?_
   try simp only [sL]
   refine gc_loopT ([(0, _), (1, _), (6, _), (9, _), (10, _), (11, _), (12, _), (19, _), (20, _), (21, _)] : Env) (fun s : Nat => (fun (l : Nat) => (([(22, .int .i64 (l : Int))] : Env), ([] : List (Nat × Itm)), l ≤ (row2 rows (k : Int)).length ∧ ∀ j : Nat, j < l → 0 ≤ at0 (row2 rows (k : Int)) (j : Int) ∧ at0 (row2 rows (k : Int)) (j : Int) < b + 1, (row2 rows (k : Int)).length - l)) s) (0) (by repeat first | exact sub_nil | refine sub_cons rfl ?_) rfl ⟨Nat.zero_le _, fun f hf => absurd hf (by omega)⟩ ?_
   rintro l hinv KL14 hKL14
   simp only [sU, sL] at hinv hKL14 ⊢
   obtain ⟨hl, hin⟩ := hinv
   refine gc_sr fun K15 hK15 => ?_
   refine gv (qt_lss rfl rfl rfl) ?_
   refine gnt (hK15 _ _ ?_)
   refine gc_seq fun K16 hK16 => ?_
   refine gc_cond rfl (fun hc2 => ?_) (fun hc2 => ?_)
   ·try simp only [sA] at hc2
    refine gc_skip ?_
    refine gk_then (hK16 _ _ ?_)
    refine gc_seq fun K17 hK17 => ?_
    refine gc_block ?_
    refine gc_sr fun K18 hK18 => ?_
    refine gv (qti (fun w M => lenA_rd hr9)) ?_
    refine gv (qtd (fun w M => mem_rd M hr9)) ?_
    refine gas ?_
    refine gnt (hK18 _ _ ?_)
    refine gc_sr fun K19 hK19 => ?_
    refine gm ?_
    refine gv (qt_lss rfl rfl rfl) ?_
    refine g_splitv (.free rfl) rfl rfl (qt_move rfl rfl) (fun hs9_2 => ?_) (fun hs9_2 => ?_)
    ·try simp only [sA] at hs9_2
     refine gsk ?_
     refine gsk ?_
     refine gsk ?_
     refine gv (qt_pick_t rfl rfl rfl) ?_
     refine gnt (hK19 _ _ ?_)
     refine gc_cond_t rfl ?_
     refine gc_sr fun K20 hK20 => ?_
     refine gas ?_
     refine gnt (hK20 _ _ ?_)
     refine gc_ret ?_
     refine gk_block_ret ?_
     refine gk_then_ret ?_
     refine gk_then_ret ?_
     refine gk_block_ret ?_
     refine gk_block_ret ?_
     refine gk_then_ret ?_
     refine gk_then_ret ?_
     refine gk_block_ret ?_
     refine gk_then_ret ?_
     refine ret_1 rfl rfl  (fun w M => ?_)
     rw [bP_f (fun h : SquareP rows (b + 1) => allP_not (j := l) (by omega) (by omega) (h k (by omega)).2)]; exact ⟨rfl, M.1⟩
    ·try simp only [sA] at hs9_2
     refine gvh (qt_move rfl rfl) ?_
     refine gvh (qt_move rfl rfl) ?_
     refine gvh (qt_gtr rfl rfl rfl) ?_
     refine gv (qt_pick_f rfl rfl rfl) ?_
     refine gnt (hK19 _ _ ?_)
     refine gc_cond rfl (fun hc3 => ?_) (fun hc3 => ?_)
     ·try simp only [sA] at hc3
      refine gc_sr fun K21 hK21 => ?_
      refine gas ?_
      refine gnt (hK21 _ _ ?_)
      refine gc_ret ?_
      refine gk_block_ret ?_
      refine gk_then_ret ?_
      refine gk_then_ret ?_
      refine gk_block_ret ?_
      refine gk_block_ret ?_
      refine gk_then_ret ?_
      refine gk_then_ret ?_
      refine gk_block_ret ?_
      refine gk_then_ret ?_
      refine ret_1 rfl rfl  (fun w M => ?_)
      rw [bP_f (fun h : SquareP rows (b + 1) => allP_not (j := l) (by omega) (by omega) (h k (by omega)).2)]; exact ⟨rfl, M.1⟩
     ·try simp only [sA] at hc3
      refine gc_skip ?_
      refine gk_block ?_
      refine gk_then (hK17 _ _ ?_)
      refine gc_region ?_
      refine gv (qt_add rfl rfl rfl (by omega)) ?_
      refine gm ?_
      refine g_nil ?_
      refine gk_then (gk_take 0 ?_)
      refine gk_sub ?hs_22 (hKL14 (l + 1) ?hi_22 ?hm_22)
      case hs_22 => repeat first | exact sub_nil | refine sub_cons rfl ?_
      case hi_22 => exact ⟨by omega, all_next hin (by omega)⟩
      case hm_22 => omega
   ·try simp only [sA] at hc2
    refine gc_exit ?_
    refine gk_then_exit ?_
    refine gk_then_exit ?_
    refine gk_block_hit ?_
    refine gk_block ?_
    refine gk_then (hK7 _ _ ?_)
    refine gc_region ?_
    refine gv (qt_add rfl rfl rfl (by omega)) ?_
    refine gm ?_
    refine g_nil ?_
    refine gk_then (gk_take 0 ?_)
    refine gk_sub ?hs_23 (hKL4 (k + 1) ?hi_23 ?hm_23)
    case hs_23 => repeat first | exact sub_nil | refine sub_cons rfl ?_
    case hi_23 => exact ⟨by omega, all_next hall ⟨by omega, allP_to fun j hj => hin j (by omega)⟩⟩
    case hm_23 => omega
 ·try simp only [sA] at hc0
  refine gc_exit ?_
  refine gk_then_exit ?_
  refine gk_then_exit ?_
  refine gk_block_hit ?_
  refine gk_then (hK2 _ _ ?_)
  refine gc_sr fun K24 hK24 => ?_
  refine gas ?_
  refine gnt (hK24 _ _ ?_)
  refine gc_ret ?_
  refine ret_1 rfl rfl  (fun w M => ?_)
  obtain rfl : k = rows.length := by omega
  rw [bP_t (show SquareP rows (b + 1) from hall)]; exact ⟨rfl, M.1⟩

set_option maxHeartbeats 1000000 in
set_option maxRecDepth 100000 in
theorem specFits_any (w : World) (v : Value) (c : Cat) (h : RdC w v c) :
  Calls Try.prog 53 #[v] w (RetB w (bP (FitP c))) := by
 have h0 := h
 obtain ⟨va, vb, vc, vd, ve, vf, vg, vh, rfl, h1, h2, h3, h4, _⟩ := h.lists
 go_enter Try.func53, Try.ntmps53
 refine gc_enter (N := 12) rfl (look_cons (k := 0) rfl (look_nil _)) ?_
 refine gc_sr fun K1 hK1 => ?_
 refine gop fun K3 hK3 => ?_
 refine go_box rfl rfl rfl rfl rfl ?_
 intro B2
 refine hK3 _ _ ?_
 refine gas ?_
 refine gnt (hK1 _ _ ?_)
 refine gc_sr fun K4 hK4 => ?_
 refine gv (qtf Try.underlying25 (z := 0) (off := 0)) ?_
 refine gv (qtl Try.underlying2 (n := 0)) ?_
 refine gv (qt_leq rfl rfl rfl) ?_
 refine g_splitv (.free rfl) rfl rfl (qt_move rfl rfl) (fun hs1_3 => ?_) (fun hs1_3 => ?_)
 ·try simp only [sA] at hs1_3
  refine gvh (qtf Try.underlying25 (z := 0) (off := 1)) ?_
  refine gvh (qtl Try.underlying22 (n := 0)) ?_
  refine gvh (qln (fun w M => lenV_rd h1)) ?_
  refine gvh (qt_leq rfl rfl rfl) ?_
  refine gv (qt_pick_t rfl rfl rfl) ?_
  refine gas ?_
  refine gnt (hK4 _ _ ?_)
  refine gc_ret ?_
  refine ret_1 rfl rfl  (fun w M => ?_)
  rw [show bP (FitP c) = decide ((c.s.length : Int) ≤ 40) from by rw [← bP_dec]; exact bP_congr ⟨fun h => by have := h.2; omega, fun h => ⟨by omega, by omega⟩⟩]; exact ⟨rfl, M.1⟩
 ·try simp only [sA] at hs1_3
  refine gsk ?_
  refine gsk ?_
  refine gsk ?_
  refine gsk ?_
  refine gv (qt_pick_f rfl rfl rfl) ?_
  refine gas ?_
  refine gnt (hK4 _ _ ?_)
  refine gc_ret ?_
  refine ret_1 rfl rfl  (fun w M => ?_)
  rw [bP_f (fun h : FitP c => by have := h.1; omega)]; exact ⟨rfl, M.1⟩

set_option maxHeartbeats 1000000 in
set_option maxRecDepth 100000 in
theorem specMade_t (w : World) (v : Value) (c : Cat) (h : RdC w v c) (hf : FitP c) :
  Calls Try.prog 26 #[v] w (RetV w (.tuple #[v, .int .i64 0])) := by
 have h0 := h
 obtain ⟨va, vb, vc, vd, ve, vf, vg, vh, rfl, h1, h2, h3, h4, _⟩ := h.lists
 go_enter Try.func26, Try.ntmps26
 refine gc_enter (N := 9) rfl (look_cons (k := 0) rfl (look_nil _)) ?_
 refine gc_sr fun K1 hK1 => ?_
 refine gop fun K3 hK3 => ?_
 refine go_box rfl rfl rfl rfl rfl ?_
 intro B2
 refine hK3 _ _ ?_
 refine gop fun K5 hK5 => ?_
 refine go_alloc (z := (.agg #[.int .i64 0, .slice none 0 0, .slice none 0 0, .slice none 0 0, .slice none 0 0])) (cs := [.int .i64 0, .slice none 0 0, .slice none 0 0, .slice none 0 0, .slice none 0 0]) rfl rfl rfl (fun w => by kernel_rfl) rfl ?_
 intro B4
 refine hK5 _ _ ?_
 refine gas ?_
 refine gnt (hK1 _ _ ?_)
 refine gc_seq fun K6 hK6 => ?_
 refine gc_sr fun K7 hK7 => ?_
 refine gv (qts Try.underlying25 (n := 0)) ?_
 refine g_q (.free rfl) rfl rfl (qt_call rfl Try.func53 rfl (by decide) rfl (fun w M => specFits_any w _ _ (mem_rdC M h0))) ?_
 refine gv (qt_not rfl rfl) ?_
 refine gnt (hK7 _ _ ?_)
 refine gc_cond rfl (fun hc0 => ?_) (fun hc0 => ?_)
 ·try simp only [sA] at hc0
  exact absurd hf (bP_f' hc0)
 ·try simp only [sA] at hc0
  refine gc_skip ?_
  refine gk_then (hK6 _ _ ?_)
  refine gc_sr fun K8 hK8 => ?_
  refine gv (qts Try.underlying25 (n := 0)) ?_
  refine gop fun K9 hK9 => ?_
  refine go_storeS (n := 1) rfl rfl rfl rfl (by kernel_rfl) rfl rfl rfl ?_
  refine hK9 _ _ ?_
  refine gas ?_
  refine gnt (hK8 _ _ ?_)
  refine gc_ret ?_
  refine ret_SI (n := 1) rfl rfl rfl Try.underlying25 rfl (by kernel_rfl) rfl (fun w M => ?_)
  exact ⟨rfl, M.1⟩

set_option maxHeartbeats 1000000 in
set_option maxRecDepth 100000 in
theorem specMade_f (w : World) (v : Value) (c : Cat) (h : RdC w v c) (hf : ¬ FitP c) :
  Calls Try.prog 26 #[v] w (RetV w (.tuple #[.agg #[.int .i64 0, .slice none 0 0, .slice none 0 0, .slice none 0 0, .slice none 0 0], .int .i64 3])) := by
 have h0 := h
 obtain ⟨va, vb, vc, vd, ve, vf, vg, vh, rfl, h1, h2, h3, h4, _⟩ := h.lists
 go_enter Try.func26, Try.ntmps26
 refine gc_enter (N := 9) rfl (look_cons (k := 0) rfl (look_nil _)) ?_
 refine gc_sr fun K1 hK1 => ?_
 refine gop fun K3 hK3 => ?_
 refine go_box rfl rfl rfl rfl rfl ?_
 intro B2
 refine hK3 _ _ ?_
 refine gop fun K5 hK5 => ?_
 refine go_alloc (z := (.agg #[.int .i64 0, .slice none 0 0, .slice none 0 0, .slice none 0 0, .slice none 0 0])) (cs := [.int .i64 0, .slice none 0 0, .slice none 0 0, .slice none 0 0, .slice none 0 0]) rfl rfl rfl (fun w => by kernel_rfl) rfl ?_
 intro B4
 refine hK5 _ _ ?_
 refine gas ?_
 refine gnt (hK1 _ _ ?_)
 refine gc_seq fun K6 hK6 => ?_
 refine gc_sr fun K7 hK7 => ?_
 refine gv (qts Try.underlying25 (n := 0)) ?_
 refine g_q (.free rfl) rfl rfl (qt_call rfl Try.func53 rfl (by decide) rfl (fun w M => specFits_any w _ _ (mem_rdC M h0))) ?_
 refine gv (qt_not rfl rfl) ?_
 refine gnt (hK7 _ _ ?_)
 refine gc_cond rfl (fun hc0 => ?_) (fun hc0 => ?_)
 ·try simp only [sA] at hc0
  refine gc_sr fun K8 hK8 => ?_
  refine gv (qt_build rfl rfl bt0_Category) ?_
  refine gop fun K9 hK9 => ?_
  refine go_storeS (n := 1) rfl rfl rfl rfl (by kernel_rfl) rfl rfl rfl ?_
  refine hK9 _ _ ?_
  refine gas ?_
  refine gnt (hK8 _ _ ?_)
  refine gc_ret ?_
  refine gk_then_ret ?_
  refine ret_SI (n := 1) rfl rfl rfl Try.underlying25 rfl (by kernel_rfl) rfl (fun w M => ?_)
  exact ⟨rfl, M.1⟩
 ·try simp only [sA] at hc0
  exact absurd (bP_t' hc0) hf

end Go.Proofs.Ytbfenibkbmkcaab
