
/- Square tables of numbers, and categories within the limits: the model's and the program's tests. -/
import Derived.Test.YtdgffiilalabeabEnts
import Derived.Test.YtdgffiilalabeabOwnL
set_option linter.unusedSimpArgs false
set_option linter.unusedVariables false
set_option linter.unusedSectionVars false
namespace Go.Proofs.Ytdgffiilalabeab
open Go.RowKit


def RowOk (rows : List (List Int)) (b : Int) (i : Nat) : Prop := (row2 rows (i : Int)).length = rows.length ∧ AllP b (row2 rows (i : Int))
def SquareP (rows : List (List Int)) (b : Int) : Prop := ∀ i : Nat, i < rows.length → RowOk rows b i
theorem allP_to {b : Int} {xs : List Int} (h : ∀ j : Nat, j < xs.length → 0 ≤ at0 xs (j : Int) ∧ at0 xs (j : Int) < b) : AllP b xs := fun x hx => by
  obtain ⟨j, hj, rfl⟩ := List.getElem_of_mem hx
  have := h j hj
  rwa [at0_nat, List.getD_eq_getElem?_getD, List.getElem?_eq_getElem hj] at this
theorem allP_not {b : Int} {xs : List Int} {j : Nat} (hj : j < xs.length) (h : ¬ (0 ≤ at0 xs (j : Int) ∧ at0 xs (j : Int) < b)) : ¬ AllP b xs := fun ha => h (allP_at ha hj)
theorem sq_at {rows : List (List Int)} {b : Int} (h : SquareP rows b) {i j : Nat} (hi : i < rows.length) (hj : j < rows.length) : 0 ≤ at0 (row2 rows (i : Int)) (j : Int) ∧ at0 (row2 rows (i : Int)) (j : Int) < b :=
  allP_at (h i hi).2 (by rw [(h i hi).1]; exact hj)
def FitP (c : Cat) : Prop := c.ob ≤ 8 ∧ c.s.length ≤ 40

set_option maxHeartbeats 1000000 in
set_option maxRecDepth 100000 in
theorem specSquare_any (w : World) (u : Value) (rows : List (List Int)) (b : Int) (hu : Rd2 w u rows) :
    Calls Try.prog 47 #[u, .int .i64 b] w (RetB w (bP (SquareP rows b))) := by
  obtain ⟨ua, uc, rfl⟩ := rd2_form hu
  have hul := rd2_len hu
  go_enter Try.func47, Try.ntmps47
  refine gc_enter (N := 29) rfl (look_cons (k := 0) rfl (look_cons (k := 1) rfl (look_nil _))) ?_
  refine gc_seq fun K1 hK1 => ?_
  refine gc_region ?_
  refine g_v (.free rfl) rfl rfl (qt_assign rfl rfl) ?_
  refine g_nil ?_
  refine gk_then (hK1 _ _ ?_)
  refine gc_seq fun K2 hK2 => ?_
  refine gc_seq fun K3 hK3 => ?_
  refine gc_region ?_
  refine g_v (.free rfl) rfl rfl (qt_assign rfl rfl) ?_
  refine g_nil ?_
  refine gk_then (hK3 _ _ ?_)
  refine gc_block ?_
  try simp only [List.nil_append, List.cons_append, List.append_assoc, List.set_cons_succ, List.set_cons_zero]
  refine gc_loop ([(0, _), (1, _)] : Env) (fun s : Nat => (fun (k : Nat) => ([(5, .int .i64 (k : Int))] : Env)) s) (fun s : Nat => (fun (k : Nat) => ([] : List (Nat × Itm))) s) (fun s : Nat => (fun (k : Nat) => k ≤ rows.length ∧ ∀ j : Nat, j < k → RowOk rows b j) s) (fun s : Nat => (fun (k : Nat) => rows.length - k) s) (0) (sub_cons rfl (sub_cons rfl (sub_cons rfl sub_nil))) rfl ⟨Nat.zero_le _, fun f hf => absurd hf (by omega)⟩ ?_
  rintro k hinv KL4 hKL4
  simp only [updL, List.foldl_cons, List.foldl_nil, List.set_cons_succ, List.set_cons_zero, List.cons_append, List.nil_append] at hinv hKL4 ⊢
  obtain ⟨hk, hall⟩ := hinv
  refine gc_seq fun K5 hK5 => ?_
  refine gc_seq fun K6 hK6 => ?_
  refine gc_region ?_
  refine g_v (.free rfl) rfl rfl (qt_move rfl rfl) ?_
  refine g_v (.free rfl) rfl rfl (qt_move rfl rfl) ?_
  refine g_v (.free rfl) rfl rfl (qt_len rfl rfl ulE2 (fun w M => lenV_rd2 hu)) ?_
  refine g_v (.free rfl) rfl rfl (qt_lss rfl rfl rfl) ?_
  refine g_nil ?_
  refine gk_then (hK6 _ _ ?_)
  refine gc_cond rfl (fun hc0 => ?_) (fun hc0 => ?_)
  · try simp only [decide_eq_true_eq, decide_eq_false_iff_not, Bool.not_eq_true', Bool.not_eq_false', Bool.not_eq_eq_eq_not, Bool.not_true, Bool.not_false, ne_eq, Decidable.not_not, Classical.not_not] at hc0
    refine gc_skip ?_
    refine gk_then (hK5 _ _ ?_)
    refine gc_seq fun K7 hK7 => ?_
    refine gc_block ?_
    refine gc_seq fun K8 hK8 => ?_
    refine gc_region ?_
    refine g_v (.free rfl) rfl rfl (qt_move rfl rfl) ?_
    refine g_v (.free rfl) rfl rfl (qt_move rfl rfl) ?_
    refine g_v (.free rfl) rfl rfl (qt_index rfl rfl rfl ulE2 szE2 (fun w M => lenA_rd2 hu) (by omega) (by omega)) ?_
    refine g_load2 (.free rfl) rfl rfl rfl rfl Try.underlying24 rfl hu (by omega) (by omega) ?_
    intro ra9 rc9 hr9
    refine g_v (.free rfl) rfl rfl (qt_len rfl rfl ulE1 (fun w M => lenV_rd hr9)) ?_
    refine g_v (.free rfl) rfl rfl (qt_move rfl rfl) ?_
    refine g_v (.free rfl) rfl rfl (qt_len rfl rfl ulE2 (fun w M => lenV_rd2 hu)) ?_
    refine g_v (.free rfl) rfl rfl (qt_neq rfl rfl rfl) ?_
    refine g_splitv (.free rfl) rfl rfl (qt_move rfl rfl) (fun hs4_8 => ?_) (fun hs4_8 => ?_)
    · try simp only [decide_eq_true_eq, decide_eq_false_iff_not, Bool.not_eq_true', Bool.not_eq_false', Bool.not_eq_eq_eq_not, Bool.not_true, Bool.not_false, ne_eq, Decidable.not_not, Classical.not_not] at hs4_8
      refine g_skip (.not _ _ _ _ rfl rfl rfl rfl) rfl rfl ?_
      refine g_skip (.not _ _ _ _ rfl rfl rfl rfl) rfl rfl ?_
      refine g_skip (.not _ _ _ _ rfl rfl rfl rfl) rfl rfl ?_
      refine g_skip (.not _ _ _ _ rfl rfl rfl rfl) rfl rfl ?_
      refine g_skip (.not _ _ _ _ rfl rfl rfl rfl) rfl rfl ?_
      refine g_skip (.not _ _ _ _ rfl rfl rfl rfl) rfl rfl ?_
      refine g_skip (.not _ _ _ _ rfl rfl rfl rfl) rfl rfl ?_
      refine g_v (.free rfl) rfl rfl (qt_pick_t rfl rfl rfl) ?_
      refine g_nil ?_
      refine gk_then (hK8 _ _ ?_)
      refine gc_cond_t rfl ?_
      refine gc_seq fun K10 hK10 => ?_
      refine gc_region ?_
      refine g_v (.free rfl) rfl rfl (qt_assign rfl rfl) ?_
      refine g_nil ?_
      refine gk_then (hK10 _ _ ?_)
      refine gc_ret ?_
      refine gk_block_ret ?_
      refine gk_then_ret ?_
      refine gk_then_ret ?_
      refine gk_block_ret ?_
      refine gk_then_ret ?_
      refine ret_1 rfl rfl  (fun w M => ?_)
      rw [bP_f (fun h : SquareP rows b => by have := (h k (by omega)).1; omega)]; exact ⟨rfl, M.1⟩
    · try simp only [decide_eq_true_eq, decide_eq_false_iff_not, Bool.not_eq_true', Bool.not_eq_false', Bool.not_eq_eq_eq_not, Bool.not_true, Bool.not_false, ne_eq, Decidable.not_not, Classical.not_not] at hs4_8
      refine g_v (.held _ _ _ rfl rfl rfl) rfl rfl (qt_move rfl rfl) ?_
      refine g_v (.held _ _ _ rfl rfl rfl) rfl rfl (qt_move rfl rfl) ?_
      refine g_v (.held _ _ _ rfl rfl rfl) rfl rfl (qt_move rfl rfl) ?_
      refine g_v (.held _ _ _ rfl rfl rfl) rfl rfl (qt_index rfl rfl rfl ulE2 szE2 (fun w M => lenA_rd2 hu) (by omega) (by omega)) ?_
      refine g_load2 (.held _ _ _ rfl rfl rfl) rfl rfl rfl rfl Try.underlying24 rfl hu (by omega) (by omega) ?_
      intro ra11 rc11 hr11
      refine g_q (.held _ _ _ rfl rfl rfl) rfl rfl (qt_call rfl Try.func57 rfl (by decide) rfl (fun w M => specMap_any w _ _ _ _ (mem_rd M hr11) rfl)) ?_
      refine g_v (.held _ _ _ rfl rfl rfl) rfl rfl (qt_not rfl rfl) ?_
      refine g_v (.free rfl) rfl rfl (qt_pick_f rfl rfl rfl) ?_
      refine g_nil ?_
      refine gk_then (hK8 _ _ ?_)
      refine gc_cond rfl (fun hc1 => ?_) (fun hc1 => ?_)
      · try simp only [decide_eq_true_eq, decide_eq_false_iff_not, Bool.not_eq_true', Bool.not_eq_false', Bool.not_eq_eq_eq_not, Bool.not_true, Bool.not_false, ne_eq, Decidable.not_not, Classical.not_not] at hc1
        refine gc_seq fun K12 hK12 => ?_
        refine gc_region ?_
        refine g_v (.free rfl) rfl rfl (qt_assign rfl rfl) ?_
        refine g_nil ?_
        refine gk_then (hK12 _ _ ?_)
        refine gc_ret ?_
        refine gk_block_ret ?_
        refine gk_then_ret ?_
        refine gk_then_ret ?_
        refine gk_block_ret ?_
        refine gk_then_ret ?_
        refine ret_1 rfl rfl  (fun w M => ?_)
        rw [bP_f (fun h : SquareP rows b => hc1 (h k (by omega)).2)]; exact ⟨rfl, M.1⟩
      · try simp only [decide_eq_true_eq, decide_eq_false_iff_not, Bool.not_eq_true', Bool.not_eq_false', Bool.not_eq_eq_eq_not, Bool.not_true, Bool.not_false, ne_eq, Decidable.not_not, Classical.not_not] at hc1
        refine gc_skip ?_
        refine gk_block ?_
        refine gk_then (hK7 _ _ ?_)
        refine gc_region ?_
        refine g_v (.free rfl) rfl rfl (qt_move rfl rfl) ?_
        refine g_v (.free rfl) rfl rfl (qt_add rfl rfl rfl (by omega)) ?_
        refine g_v (.free rfl) rfl rfl (qt_assign rfl rfl) ?_
        refine g_nil ?_
        refine gk_then (gk_take 0 ?_)
        refine gk_sub ?hs_13 (hKL4 (k + 1) ?hi_13 ?hm_13)
        case hs_13 => exact (sub_cons rfl (sub_cons rfl (sub_cons rfl sub_nil)))
        case hi_13 => exact ⟨by omega, all_next hall ⟨by omega, hc1⟩⟩
        case hm_13 => omega
  · try simp only [decide_eq_true_eq, decide_eq_false_iff_not, Bool.not_eq_true', Bool.not_eq_false', Bool.not_eq_eq_eq_not, Bool.not_true, Bool.not_false, ne_eq, Decidable.not_not, Classical.not_not] at hc0
    refine gc_exit ?_
    refine gk_then_exit ?_
    refine gk_then_exit ?_
    refine gk_block_hit ?_
    refine gk_then (hK2 _ _ ?_)
    refine gc_seq fun K14 hK14 => ?_
    refine gc_region ?_
    refine g_v (.free rfl) rfl rfl (qt_assign rfl rfl) ?_
    refine g_nil ?_
    refine gk_then (hK14 _ _ ?_)
    refine gc_ret ?_
    refine ret_1 rfl rfl  (fun w M => ?_)
    obtain rfl : k = rows.length := by omega
    rw [bP_t (show SquareP rows b from hall)]; exact ⟨rfl, M.1⟩

set_option maxHeartbeats 1000000 in
set_option maxRecDepth 100000 in
theorem isSquare_any (w : World) (u : Value) (rows : List (List Int)) (b : Int) (hu : Rd2 w u rows) :
    Calls Try.prog 107 #[u, .int .i64 b] w (RetB w (bP (SquareP rows (b + 1)))) := by
  obtain ⟨ua, uc, rfl⟩ := rd2_form hu
  have hul := rd2_len hu
  go_enter Try.func107, Try.ntmps107
  refine gc_enter (N := 35) rfl (look_cons (k := 0) rfl (look_cons (k := 1) rfl (look_nil _))) ?_
  refine gc_seq fun K1 hK1 => ?_
  refine gc_region ?_
  refine g_v (.free rfl) rfl rfl (qt_assign rfl rfl) ?_
  refine g_nil ?_
  refine gk_then (hK1 _ _ ?_)
  refine gc_seq fun K2 hK2 => ?_
  refine gc_seq fun K3 hK3 => ?_
  refine gc_region ?_
  refine g_v (.free rfl) rfl rfl (qt_move rfl rfl) ?_
  refine g_v (.free rfl) rfl rfl (qt_len rfl rfl ulE2 (fun w M => lenV_rd2 hu)) ?_
  refine g_v (.free rfl) rfl rfl (qt_move rfl rfl) ?_
  refine g_nil ?_
  refine gk_then (hK3 _ _ ?_)
  refine gc_block ?_
  try simp only [List.nil_append, List.cons_append, List.append_assoc, List.set_cons_succ, List.set_cons_zero]
  refine gc_loop ([(0, _), (1, _), (9, _), (10, _)] : Env) (fun s : Nat => (fun (k : Nat) => ([(11, .int .i64 (k : Int))] : Env)) s) (fun s : Nat => (fun (k : Nat) => ([] : List (Nat × Itm))) s) (fun s : Nat => (fun (k : Nat) => k ≤ rows.length ∧ ∀ j : Nat, j < k → RowOk rows (b + 1) j) s) (fun s : Nat => (fun (k : Nat) => rows.length - k) s) (0) (sub_cons rfl (sub_cons rfl (sub_cons rfl (sub_cons rfl (sub_cons rfl sub_nil))))) rfl ⟨Nat.zero_le _, fun f hf => absurd hf (by omega)⟩ ?_
  rintro k hinv KL4 hKL4
  simp only [updL, List.foldl_cons, List.foldl_nil, List.set_cons_succ, List.set_cons_zero, List.cons_append, List.nil_append] at hinv hKL4 ⊢
  obtain ⟨hk, hall⟩ := hinv
  refine gc_seq fun K5 hK5 => ?_
  refine gc_region ?_
  refine g_v (.free rfl) rfl rfl (qt_lss rfl rfl rfl) ?_
  refine g_nil ?_
  refine gk_then (hK5 _ _ ?_)
  refine gc_seq fun K6 hK6 => ?_
  refine gc_cond rfl (fun hc0 => ?_) (fun hc0 => ?_)
  · try simp only [decide_eq_true_eq, decide_eq_false_iff_not, Bool.not_eq_true', Bool.not_eq_false', Bool.not_eq_eq_eq_not, Bool.not_true, Bool.not_false, ne_eq, Decidable.not_not, Classical.not_not] at hc0
    refine gc_skip ?_
    refine gk_then (hK6 _ _ ?_)
    refine gc_seq fun K7 hK7 => ?_
    refine gc_block ?_
    refine gc_seq fun K8 hK8 => ?_
    refine gc_region ?_
    refine g_v (.free rfl) rfl rfl (qt_index rfl rfl rfl ulE2 szE2 (fun w M => lenA_rd2 hu) (by omega) (by omega)) ?_
    refine g_load2 (.free rfl) rfl rfl rfl rfl Try.underlying24 rfl hu (by omega) (by omega) ?_
    intro ra9 rc9 hr9
    refine g_v (.free rfl) rfl rfl (qt_assign rfl rfl) ?_
    refine g_nil ?_
    refine gk_then (hK8 _ _ ?_)
    refine gc_seq fun K10 hK10 => ?_
    refine gc_seq fun K11 hK11 => ?_
    refine gc_region ?_
    refine g_v (.free rfl) rfl rfl (qt_move rfl rfl) ?_
    refine g_v (.free rfl) rfl rfl (qt_len rfl rfl ulE1 (fun w M => lenV_rd hr9)) ?_
    refine g_v (.free rfl) rfl rfl (qt_move rfl rfl) ?_
    refine g_v (.free rfl) rfl rfl (qt_len rfl rfl ulE2 (fun w M => lenV_rd2 hu)) ?_
    refine g_v (.free rfl) rfl rfl (qt_neq rfl rfl rfl) ?_
    refine g_nil ?_
    refine gk_then (hK11 _ _ ?_)
    refine gc_cond rfl (fun hc1 => ?_) (fun hc1 => ?_)
    · try simp only [decide_eq_true_eq, decide_eq_false_iff_not, Bool.not_eq_true', Bool.not_eq_false', Bool.not_eq_eq_eq_not, Bool.not_true, Bool.not_false, ne_eq, Decidable.not_not, Classical.not_not] at hc1
      refine gc_seq fun K12 hK12 => ?_
      refine gc_region ?_
      refine g_v (.free rfl) rfl rfl (qt_assign rfl rfl) ?_
      refine g_nil ?_
      refine gk_then (hK12 _ _ ?_)
      refine gc_ret ?_
      refine gk_then_ret ?_
      refine gk_block_ret ?_
      refine gk_then_ret ?_
      refine gk_then_ret ?_
      refine gk_block_ret ?_
      refine gk_then_ret ?_
      refine ret_1 rfl rfl  (fun w M => ?_)
      rw [bP_f (fun h : SquareP rows (b + 1) => by have := (h k (by omega)).1; omega)]; exact ⟨rfl, M.1⟩
    · try simp only [decide_eq_true_eq, decide_eq_false_iff_not, Bool.not_eq_true', Bool.not_eq_false', Bool.not_eq_eq_eq_not, Bool.not_true, Bool.not_false, ne_eq, Decidable.not_not, Classical.not_not] at hc1
      refine gc_skip ?_
      refine gk_then (hK10 _ _ ?_)
      refine gc_seq fun K13 hK13 => ?_
      refine gc_region ?_
      refine g_v (.free rfl) rfl rfl (qt_move rfl rfl) ?_
      refine g_v (.free rfl) rfl rfl (qt_len rfl rfl ulE1 (fun w M => lenV_rd hr9)) ?_
      refine g_v (.free rfl) rfl rfl (qt_move rfl rfl) ?_
      refine g_nil ?_
      refine gk_then (hK13 _ _ ?_)
      refine gc_block ?_
      try simp only [List.nil_append, List.cons_append, List.append_assoc, List.set_cons_succ, List.set_cons_zero]
      refine gc_loop ([(0, _), (1, _), (6, _), (9, _), (10, _), (11, _), (12, _), (19, _), (20, _), (21, _)] : Env) (fun s : Nat => (fun (l : Nat) => ([(22, .int .i64 (l : Int))] : Env)) s) (fun s : Nat => (fun (l : Nat) => ([] : List (Nat × Itm))) s) (fun s : Nat => (fun (l : Nat) => l ≤ (row2 rows (k : Int)).length ∧ ∀ j : Nat, j < l → 0 ≤ at0 (row2 rows (k : Int)) (j : Int) ∧ at0 (row2 rows (k : Int)) (j : Int) < b + 1) s) (fun s : Nat => (fun (l : Nat) => (row2 rows (k : Int)).length - l) s) (0) (sub_cons rfl (sub_cons rfl (sub_cons rfl (sub_cons rfl (sub_cons rfl (sub_cons rfl (sub_cons rfl (sub_cons rfl (sub_cons rfl (sub_cons rfl (sub_cons rfl sub_nil))))))))))) rfl ⟨Nat.zero_le _, fun f hf => absurd hf (by omega)⟩ ?_
      rintro l hinv KL14 hKL14
      simp only [updL, List.foldl_cons, List.foldl_nil, List.set_cons_succ, List.set_cons_zero, List.cons_append, List.nil_append] at hinv hKL14 ⊢
      obtain ⟨hl, hin⟩ := hinv
      refine gc_seq fun K15 hK15 => ?_
      refine gc_region ?_
      refine g_v (.free rfl) rfl rfl (qt_lss rfl rfl rfl) ?_
      refine g_nil ?_
      refine gk_then (hK15 _ _ ?_)
      refine gc_seq fun K16 hK16 => ?_
      refine gc_cond rfl (fun hc2 => ?_) (fun hc2 => ?_)
      · try simp only [decide_eq_true_eq, decide_eq_false_iff_not, Bool.not_eq_true', Bool.not_eq_false', Bool.not_eq_eq_eq_not, Bool.not_true, Bool.not_false, ne_eq, Decidable.not_not, Classical.not_not] at hc2
        refine gc_skip ?_
        refine gk_then (hK16 _ _ ?_)
        refine gc_seq fun K17 hK17 => ?_
        refine gc_block ?_
        refine gc_seq fun K18 hK18 => ?_
        refine gc_region ?_
        refine g_v (.free rfl) rfl rfl (qt_index rfl rfl rfl ulE1 szE1 (fun w M => lenA_rd hr9) (by omega) (by omega)) ?_
        refine g_v (.free rfl) rfl rfl (qt_load1 rfl rfl Try.underlying2 rfl (fun w M => mem_rd M hr9) (by omega) (by omega)) ?_
        refine g_v (.free rfl) rfl rfl (qt_assign rfl rfl) ?_
        refine g_nil ?_
        refine gk_then (hK18 _ _ ?_)
        refine gc_seq fun K19 hK19 => ?_
        refine gc_region ?_
        refine g_v (.free rfl) rfl rfl (qt_move rfl rfl) ?_
        refine g_v (.free rfl) rfl rfl (qt_lss rfl rfl rfl) ?_
        refine g_splitv (.free rfl) rfl rfl (qt_move rfl rfl) (fun hs9_2 => ?_) (fun hs9_2 => ?_)
        · try simp only [decide_eq_true_eq, decide_eq_false_iff_not, Bool.not_eq_true', Bool.not_eq_false', Bool.not_eq_eq_eq_not, Bool.not_true, Bool.not_false, ne_eq, Decidable.not_not, Classical.not_not] at hs9_2
          refine g_skip (.not _ _ _ _ rfl rfl rfl rfl) rfl rfl ?_
          refine g_skip (.not _ _ _ _ rfl rfl rfl rfl) rfl rfl ?_
          refine g_skip (.not _ _ _ _ rfl rfl rfl rfl) rfl rfl ?_
          refine g_v (.free rfl) rfl rfl (qt_pick_t rfl rfl rfl) ?_
          refine g_nil ?_
          refine gk_then (hK19 _ _ ?_)
          refine gc_cond_t rfl ?_
          refine gc_seq fun K20 hK20 => ?_
          refine gc_region ?_
          refine g_v (.free rfl) rfl rfl (qt_assign rfl rfl) ?_
          refine g_nil ?_
          refine gk_then (hK20 _ _ ?_)
          refine gc_ret ?_
          refine gk_block_ret ?_
          refine gk_then_ret ?_
          refine gk_then_ret ?_
          refine gk_block_ret ?_
          refine gk_block_ret ?_
          refine gk_then_ret ?_
          refine gk_then_ret ?_
          refine gk_block_ret ?_
          refine gk_then_ret ?_
          refine ret_1 rfl rfl  (fun w M => ?_)
          rw [bP_f (fun h : SquareP rows (b + 1) => allP_not (j := l) (by omega) (by omega) (h k (by omega)).2)]; exact ⟨rfl, M.1⟩
        · try simp only [decide_eq_true_eq, decide_eq_false_iff_not, Bool.not_eq_true', Bool.not_eq_false', Bool.not_eq_eq_eq_not, Bool.not_true, Bool.not_false, ne_eq, Decidable.not_not, Classical.not_not] at hs9_2
          refine g_v (.held _ _ _ rfl rfl rfl) rfl rfl (qt_move rfl rfl) ?_
          refine g_v (.held _ _ _ rfl rfl rfl) rfl rfl (qt_move rfl rfl) ?_
          refine g_v (.held _ _ _ rfl rfl rfl) rfl rfl (qt_gtr rfl rfl rfl) ?_
          refine g_v (.free rfl) rfl rfl (qt_pick_f rfl rfl rfl) ?_
          refine g_nil ?_
          refine gk_then (hK19 _ _ ?_)
          refine gc_cond rfl (fun hc3 => ?_) (fun hc3 => ?_)
          · try simp only [decide_eq_true_eq, decide_eq_false_iff_not, Bool.not_eq_true', Bool.not_eq_false', Bool.not_eq_eq_eq_not, Bool.not_true, Bool.not_false, ne_eq, Decidable.not_not, Classical.not_not] at hc3
            refine gc_seq fun K21 hK21 => ?_
            refine gc_region ?_
            refine g_v (.free rfl) rfl rfl (qt_assign rfl rfl) ?_
            refine g_nil ?_
            refine gk_then (hK21 _ _ ?_)
            refine gc_ret ?_
            refine gk_block_ret ?_
            refine gk_then_ret ?_
            refine gk_then_ret ?_
            refine gk_block_ret ?_
            refine gk_block_ret ?_
            refine gk_then_ret ?_
            refine gk_then_ret ?_
            refine gk_block_ret ?_
            refine gk_then_ret ?_
            refine ret_1 rfl rfl  (fun w M => ?_)
            rw [bP_f (fun h : SquareP rows (b + 1) => allP_not (j := l) (by omega) (by omega) (h k (by omega)).2)]; exact ⟨rfl, M.1⟩
          · try simp only [decide_eq_true_eq, decide_eq_false_iff_not, Bool.not_eq_true', Bool.not_eq_false', Bool.not_eq_eq_eq_not, Bool.not_true, Bool.not_false, ne_eq, Decidable.not_not, Classical.not_not] at hc3
            refine gc_skip ?_
            refine gk_block ?_
            refine gk_then (hK17 _ _ ?_)
            refine gc_region ?_
            refine g_v (.free rfl) rfl rfl (qt_add rfl rfl rfl (by omega)) ?_
            refine g_v (.free rfl) rfl rfl (qt_move rfl rfl) ?_
            refine g_nil ?_
            refine gk_then (gk_take 0 ?_)
            refine gk_sub ?hs_22 (hKL14 (l + 1) ?hi_22 ?hm_22)
            case hs_22 => exact (sub_cons rfl (sub_cons rfl (sub_cons rfl (sub_cons rfl (sub_cons rfl (sub_cons rfl (sub_cons rfl (sub_cons rfl (sub_cons rfl (sub_cons rfl (sub_cons rfl sub_nil)))))))))))
            case hi_22 => exact ⟨by omega, all_next hin (by omega)⟩
            case hm_22 => omega
      · try simp only [decide_eq_true_eq, decide_eq_false_iff_not, Bool.not_eq_true', Bool.not_eq_false', Bool.not_eq_eq_eq_not, Bool.not_true, Bool.not_false, ne_eq, Decidable.not_not, Classical.not_not] at hc2
        refine gc_exit ?_
        refine gk_then_exit ?_
        refine gk_then_exit ?_
        refine gk_block_hit ?_
        refine gk_block ?_
        refine gk_then (hK7 _ _ ?_)
        refine gc_region ?_
        refine g_v (.free rfl) rfl rfl (qt_add rfl rfl rfl (by omega)) ?_
        refine g_v (.free rfl) rfl rfl (qt_move rfl rfl) ?_
        refine g_nil ?_
        refine gk_then (gk_take 0 ?_)
        refine gk_sub ?hs_23 (hKL4 (k + 1) ?hi_23 ?hm_23)
        case hs_23 => exact (sub_cons rfl (sub_cons rfl (sub_cons rfl (sub_cons rfl (sub_cons rfl sub_nil)))))
        case hi_23 => exact ⟨by omega, all_next hall ⟨by omega, allP_to fun j hj => hin j (by omega)⟩⟩
        case hm_23 => omega
  · try simp only [decide_eq_true_eq, decide_eq_false_iff_not, Bool.not_eq_true', Bool.not_eq_false', Bool.not_eq_eq_eq_not, Bool.not_true, Bool.not_false, ne_eq, Decidable.not_not, Classical.not_not] at hc0
    refine gc_exit ?_
    refine gk_then_exit ?_
    refine gk_then_exit ?_
    refine gk_block_hit ?_
    refine gk_then (hK2 _ _ ?_)
    refine gc_seq fun K24 hK24 => ?_
    refine gc_region ?_
    refine g_v (.free rfl) rfl rfl (qt_assign rfl rfl) ?_
    refine g_nil ?_
    refine gk_then (hK24 _ _ ?_)
    refine gc_ret ?_
    refine ret_1 rfl rfl  (fun w M => ?_)
    obtain rfl : k = rows.length := by omega
    rw [bP_t (show SquareP rows (b + 1) from hall)]; exact ⟨rfl, M.1⟩

set_option maxHeartbeats 1000000 in
set_option maxRecDepth 100000 in
theorem specFits_any (w : World) (v : Value) (c : Cat) (h : RdC w v c) :
    Calls Try.prog 105 #[v] w (RetB w (bP (FitP c))) := by
  have h0 := h
  obtain ⟨va, vb, vc, vd, ve, vf, vg, vh, rfl, h1, h2, h3, h4, _⟩ := h.lists
  go_enter Try.func105, Try.ntmps105
  refine gc_enter (N := 12) rfl (look_cons (k := 0) rfl (look_nil _)) ?_
  refine gc_seq fun K1 hK1 => ?_
  refine gc_region ?_
  refine g_op (.free rfl) fun K3 hK3 => ?_
  refine go_box rfl rfl rfl rfl rfl ?_
  intro B2
  refine hK3 _ _ ?_
  refine g_v (.free rfl) rfl rfl (qt_assign rfl rfl) ?_
  refine g_nil ?_
  refine gk_then (hK1 _ _ ?_)
  refine gc_seq fun K4 hK4 => ?_
  refine gc_region ?_
  refine g_v (.free rfl) rfl rfl (qt_field (z := 0) (off := 0) rfl rfl Try.underlying26 rfl (by kernel_rfl) rfl) ?_
  refine g_v (.free rfl) rfl rfl (qt_loadB (n := 0) rfl rfl Try.underlying2 rfl rfl rfl) ?_
  refine g_v (.free rfl) rfl rfl (qt_leq rfl rfl rfl) ?_
  refine g_splitv (.free rfl) rfl rfl (qt_move rfl rfl) (fun hs1_3 => ?_) (fun hs1_3 => ?_)
  · try simp only [decide_eq_true_eq, decide_eq_false_iff_not, Bool.not_eq_true', Bool.not_eq_false', Bool.not_eq_eq_eq_not, Bool.not_true, Bool.not_false, ne_eq, Decidable.not_not, Classical.not_not] at hs1_3
    refine g_v (.held _ _ _ rfl rfl rfl) rfl rfl (qt_field (z := 0) (off := 1) rfl rfl Try.underlying26 rfl (by kernel_rfl) rfl) ?_
    refine g_v (.held _ _ _ rfl rfl rfl) rfl rfl (qt_loadB (n := 0) rfl rfl Try.underlying24 rfl rfl rfl) ?_
    refine g_v (.held _ _ _ rfl rfl rfl) rfl rfl (qt_len rfl rfl ulE1 (fun w M => lenV_rd h1)) ?_
    refine g_v (.held _ _ _ rfl rfl rfl) rfl rfl (qt_leq rfl rfl rfl) ?_
    refine g_v (.free rfl) rfl rfl (qt_pick_t rfl rfl rfl) ?_
    refine g_v (.free rfl) rfl rfl (qt_assign rfl rfl) ?_
    refine g_nil ?_
    refine gk_then (hK4 _ _ ?_)
    refine gc_ret ?_
    refine ret_1 rfl rfl  (fun w M => ?_)
    rw [show bP (FitP c) = decide ((c.s.length : Int) ≤ 40) from by rw [← bP_dec]; exact bP_congr ⟨fun h => by have := h.2; omega, fun h => ⟨by omega, by omega⟩⟩]; exact ⟨rfl, M.1⟩
  · try simp only [decide_eq_true_eq, decide_eq_false_iff_not, Bool.not_eq_true', Bool.not_eq_false', Bool.not_eq_eq_eq_not, Bool.not_true, Bool.not_false, ne_eq, Decidable.not_not, Classical.not_not] at hs1_3
    refine g_skip (.not _ _ _ _ rfl rfl rfl rfl) rfl rfl ?_
    refine g_skip (.not _ _ _ _ rfl rfl rfl rfl) rfl rfl ?_
    refine g_skip (.not _ _ _ _ rfl rfl rfl rfl) rfl rfl ?_
    refine g_skip (.not _ _ _ _ rfl rfl rfl rfl) rfl rfl ?_
    refine g_v (.free rfl) rfl rfl (qt_pick_f rfl rfl rfl) ?_
    refine g_v (.free rfl) rfl rfl (qt_assign rfl rfl) ?_
    refine g_nil ?_
    refine gk_then (hK4 _ _ ?_)
    refine gc_ret ?_
    refine ret_1 rfl rfl  (fun w M => ?_)
    rw [bP_f (fun h : FitP c => by have := h.1; omega)]; exact ⟨rfl, M.1⟩

set_option maxHeartbeats 1000000 in
set_option maxRecDepth 100000 in
theorem specMade_t (w : World) (v : Value) (c : Cat) (h : RdC w v c) (hf : FitP c) :
    Calls Try.prog 48 #[v] w (RetV w (.tuple #[v, .int .i64 0])) := by
  have h0 := h
  obtain ⟨va, vb, vc, vd, ve, vf, vg, vh, rfl, h1, h2, h3, h4, _⟩ := h.lists
  go_enter Try.func48, Try.ntmps48
  refine gc_enter (N := 9) rfl (look_cons (k := 0) rfl (look_nil _)) ?_
  refine gc_seq fun K1 hK1 => ?_
  refine gc_region ?_
  refine g_op (.free rfl) fun K3 hK3 => ?_
  refine go_box rfl rfl rfl rfl rfl ?_
  intro B2
  refine hK3 _ _ ?_
  refine g_op (.free rfl) fun K5 hK5 => ?_
  refine go_alloc (z := (.agg #[.int .i64 0, .slice none 0 0, .slice none 0 0, .slice none 0 0, .slice none 0 0])) (cs := [.int .i64 0, .slice none 0 0, .slice none 0 0, .slice none 0 0, .slice none 0 0]) rfl rfl rfl (fun w => by kernel_rfl) rfl ?_
  intro B4
  refine hK5 _ _ ?_
  refine g_v (.free rfl) rfl rfl (qt_assign rfl rfl) ?_
  refine g_nil ?_
  refine gk_then (hK1 _ _ ?_)
  refine gc_seq fun K6 hK6 => ?_
  refine gc_seq fun K7 hK7 => ?_
  refine gc_region ?_
  refine g_v (.free rfl) rfl rfl (qt_loadS (n := 0) rfl rfl Try.underlying26 rfl (by kernel_rfl) rfl) ?_
  refine g_q (.free rfl) rfl rfl (qt_call rfl Try.func105 rfl (by decide) rfl (fun w M => specFits_any w _ _ (mem_rdC M h0))) ?_
  refine g_v (.free rfl) rfl rfl (qt_not rfl rfl) ?_
  refine g_nil ?_
  refine gk_then (hK7 _ _ ?_)
  refine gc_cond rfl (fun hc0 => ?_) (fun hc0 => ?_)
  · try simp only [decide_eq_true_eq, decide_eq_false_iff_not, Bool.not_eq_true', Bool.not_eq_false', Bool.not_eq_eq_eq_not, Bool.not_true, Bool.not_false, ne_eq, Decidable.not_not, Classical.not_not] at hc0
    exact absurd hf (bP_f' hc0)
  · try simp only [decide_eq_true_eq, decide_eq_false_iff_not, Bool.not_eq_true', Bool.not_eq_false', Bool.not_eq_eq_eq_not, Bool.not_true, Bool.not_false, ne_eq, Decidable.not_not, Classical.not_not] at hc0
    refine gc_skip ?_
    refine gk_then (hK6 _ _ ?_)
    refine gc_seq fun K8 hK8 => ?_
    refine gc_region ?_
    refine g_v (.free rfl) rfl rfl (qt_loadS (n := 0) rfl rfl Try.underlying26 rfl (by kernel_rfl) rfl) ?_
    refine g_op (.free rfl) fun K9 hK9 => ?_
    refine go_storeS (n := 1) rfl rfl rfl rfl (by kernel_rfl) rfl rfl rfl ?_
    refine hK9 _ _ ?_
    refine g_v (.free rfl) rfl rfl (qt_assign rfl rfl) ?_
    refine g_nil ?_
    refine gk_then (hK8 _ _ ?_)
    refine gc_ret ?_
    refine ret_SI (n := 1) rfl rfl rfl Try.underlying26 rfl (by kernel_rfl) rfl (fun w M => ?_)
    exact ⟨rfl, M.1⟩

set_option maxHeartbeats 1000000 in
set_option maxRecDepth 100000 in
theorem specMade_f (w : World) (v : Value) (c : Cat) (h : RdC w v c) (hf : ¬ FitP c) :
    Calls Try.prog 48 #[v] w (RetV w (.tuple #[.agg #[.int .i64 0, .slice none 0 0, .slice none 0 0, .slice none 0 0, .slice none 0 0], .int .i64 3])) := by
  have h0 := h
  obtain ⟨va, vb, vc, vd, ve, vf, vg, vh, rfl, h1, h2, h3, h4, _⟩ := h.lists
  go_enter Try.func48, Try.ntmps48
  refine gc_enter (N := 9) rfl (look_cons (k := 0) rfl (look_nil _)) ?_
  refine gc_seq fun K1 hK1 => ?_
  refine gc_region ?_
  refine g_op (.free rfl) fun K3 hK3 => ?_
  refine go_box rfl rfl rfl rfl rfl ?_
  intro B2
  refine hK3 _ _ ?_
  refine g_op (.free rfl) fun K5 hK5 => ?_
  refine go_alloc (z := (.agg #[.int .i64 0, .slice none 0 0, .slice none 0 0, .slice none 0 0, .slice none 0 0])) (cs := [.int .i64 0, .slice none 0 0, .slice none 0 0, .slice none 0 0, .slice none 0 0]) rfl rfl rfl (fun w => by kernel_rfl) rfl ?_
  intro B4
  refine hK5 _ _ ?_
  refine g_v (.free rfl) rfl rfl (qt_assign rfl rfl) ?_
  refine g_nil ?_
  refine gk_then (hK1 _ _ ?_)
  refine gc_seq fun K6 hK6 => ?_
  refine gc_seq fun K7 hK7 => ?_
  refine gc_region ?_
  refine g_v (.free rfl) rfl rfl (qt_loadS (n := 0) rfl rfl Try.underlying26 rfl (by kernel_rfl) rfl) ?_
  refine g_q (.free rfl) rfl rfl (qt_call rfl Try.func105 rfl (by decide) rfl (fun w M => specFits_any w _ _ (mem_rdC M h0))) ?_
  refine g_v (.free rfl) rfl rfl (qt_not rfl rfl) ?_
  refine g_nil ?_
  refine gk_then (hK7 _ _ ?_)
  refine gc_cond rfl (fun hc0 => ?_) (fun hc0 => ?_)
  · try simp only [decide_eq_true_eq, decide_eq_false_iff_not, Bool.not_eq_true', Bool.not_eq_false', Bool.not_eq_eq_eq_not, Bool.not_true, Bool.not_false, ne_eq, Decidable.not_not, Classical.not_not] at hc0
    refine gc_seq fun K8 hK8 => ?_
    refine gc_region ?_
    refine g_v (.free rfl) rfl rfl (qt_build rfl rfl bt0_Category) ?_
    refine g_op (.free rfl) fun K9 hK9 => ?_
    refine go_storeS (n := 1) rfl rfl rfl rfl (by kernel_rfl) rfl rfl rfl ?_
    refine hK9 _ _ ?_
    refine g_v (.free rfl) rfl rfl (qt_assign rfl rfl) ?_
    refine g_nil ?_
    refine gk_then (hK8 _ _ ?_)
    refine gc_ret ?_
    refine gk_then_ret ?_
    refine ret_SI (n := 1) rfl rfl rfl Try.underlying26 rfl (by kernel_rfl) rfl (fun w M => ?_)
    exact ⟨rfl, M.1⟩
  · try simp only [decide_eq_true_eq, decide_eq_false_iff_not, Bool.not_eq_true', Bool.not_eq_false', Bool.not_eq_eq_eq_not, Bool.not_true, Bool.not_false, ne_eq, Decidable.not_not, Classical.not_not] at hc0
    exact absurd (bP_t' hc0) hf

end Go.Proofs.Ytdgffiilalabeab
