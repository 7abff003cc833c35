
/- The category of a preorder: both sides. -/
import Derived.Test.YtbfenibkbmkcaabPos
set_option linter.unusedSimpArgs false
set_option linter.unusedVariables false
set_option linter.unusedSectionVars false
namespace Go.Proofs.Ytbfenibkbmkcaab
open Go.RowKit


def imp3 (r : List (List Int)) (i j m : Nat) : Prop := at0 (row2 r (i : Int)) (j : Int) = 1 → at0 (row2 r (j : Int)) (m : Int) = 1 → at0 (row2 r (i : Int)) (m : Int) = 1
def PreRow (r : List (List Int)) (i : Nat) : Prop := at0 (row2 r (i : Int)) (i : Int) = 1 ∧ ∀ j : Nat, j < r.length → ∀ m : Nat, m < r.length → imp3 r i j m
def PreP (r : List (List Int)) : Prop := SquareP r 2 ∧ ∀ i : Nat, i < r.length → PreRow r i
def incl (r : List (List Int)) (i j : Nat) : Prop := ∀ m : Nat, m < r.length → at0 (row2 r (j : Int)) (m : Int) ≤ at0 (row2 r (i : Int)) (m : Int)
theorem incl_row {r : List (List Int)} (hs : SquareP r 2) {i : Nat} (hi : i < r.length) (hd : at0 (row2 r (i : Int)) (i : Int) = 1) (h : ∀ j : Nat, j < r.length → at0 (row2 r (i : Int)) (j : Int) = 1 → incl r i j) : PreRow r i :=
  ⟨hd, fun j hj m hm h1 h2 => by have h3 := h j hj h1 m hm; have h4 := sq_at hs hi hm; omega⟩
theorem incl_not {r : List (List Int)} (hs : SquareP r 2) {i j : Nat} (hi : i < r.length) (hj : j < r.length) (h1 : at0 (row2 r (i : Int)) (j : Int) = 1) (h : ¬ incl r i j) : ¬ PreRow r i := fun hp => h fun m hm => by
  have h3 := hp.2 j hj m hm h1
  have h4 := sq_at hs hi hm
  have h5 := sq_at hs hj hm
  by_cases h6 : at0 (row2 r (j : Int)) (m : Int) = 1
  · rw [h6, h3 h6]; exact Int.le_refl 1
  · omega
noncomputable def fPreorderCategory (r : List (List Int)) : Cat × Int := if bP (PreP r) = true then (if r.length ≤ 8 then (if bP (FitP (posetC r)) = true then (posetC r, 0) else (cat0, 3)) else (cat0, 2)) else (cat0, 1)
theorem pre_n {r : List (List Int)} (h : bP (PreP r) = false) : fPreorderCategory r = (cat0, 1) := if_neg (by rw [h]; decide)
theorem pre_r {r : List (List Int)} (h : bP (PreP r) = true) (h' : ¬ r.length ≤ 8) : fPreorderCategory r = (cat0, 2) := by unfold fPreorderCategory; rw [if_pos h, if_neg h']
theorem pre_l {r : List (List Int)} (h : bP (PreP r) = true) (h' : r.length ≤ 8) (hf : ¬ FitP (posetC r)) : fPreorderCategory r = (cat0, 3) := by unfold fPreorderCategory; rw [if_pos h, if_pos h', if_neg (by rw [bP_f hf]; decide)]
theorem pre_t {r : List (List Int)} (h : bP (PreP r) = true) (h' : r.length ≤ 8) (hf : FitP (posetC r)) : fPreorderCategory r = (posetC r, 0) := by unfold fPreorderCategory; rw [if_pos h, if_pos h', if_pos (bP_t hf)]

set_option maxHeartbeats 1000000 in
set_option maxRecDepth 100000 in
theorem includes_any (w : World) (u v : Value) (xs ys : List Int) (hu : Rd w u xs) (hv : Rd w v ys) (hl : xs.length = ys.length) :
    Calls Try.prog 78 #[u, v] w (RetB w (bP (∀ j : Nat, j < ys.length → at0 ys (j : Int) ≤ at0 xs (j : Int)))) := by
  obtain ⟨ua, uc, rfl⟩ := rd_form hu
  obtain ⟨va, vc, rfl⟩ := rd_form hv
  have hyl : ys.length ≤ 17592186044415 := by obtain ⟨_, _, _, hl, _⟩ := hv; exact hl
  go_enter Try.func78, Try.ntmps78
  refine gc_enter (N := 21) rfl (look_cons (k := 0) rfl (look_cons (k := 1) rfl (look_nil _))) ?_
  refine gc_seq fun K1 hK1 => ?_
  refine gc_region ?_
  refine g_v (.free rfl) rfl rfl (qt_assign rfl rfl) ?_
  refine g_nil ?_
  refine gk_then (hK1 _ _ ?_)
  refine gc_seq fun K2 hK2 => ?_
  refine gc_seq fun K3 hK3 => ?_
  refine gc_region ?_
  refine g_v (.free rfl) rfl rfl (qt_move rfl rfl) ?_
  refine g_v (.free rfl) rfl rfl (qt_len rfl rfl ulE1 (fun w M => lenV_rd hv)) ?_
  refine g_v (.free rfl) rfl rfl (qt_move rfl rfl) ?_
  refine g_nil ?_
  refine gk_then (hK3 _ _ ?_)
  refine gc_block ?_
  try simp only [List.nil_append, List.cons_append, List.append_assoc, List.set_cons_succ, List.set_cons_zero]
  refine gc_loop ([(0, _), (1, _), (7, _), (8, _)] : Env) (fun s : Nat => (fun (k : Nat) => ([(9, .int .i64 (k : Int))] : Env)) s) (fun s : Nat => (fun (k : Nat) => ([] : List (Nat × Itm))) s) (fun s : Nat => (fun (k : Nat) => k ≤ ys.length ∧ ∀ j : Nat, j < k → at0 ys (j : Int) ≤ at0 xs (j : Int)) s) (fun s : Nat => (fun (k : Nat) => ys.length - k) s) (0) (sub_cons rfl (sub_cons rfl (sub_cons rfl (sub_cons rfl (sub_cons rfl sub_nil))))) rfl ⟨Nat.zero_le _, fun f hf => absurd hf (by omega)⟩ ?_
  rintro k hinv KL4 hKL4
  simp only [updL, List.foldl_cons, List.foldl_nil, List.set_cons_succ, List.set_cons_zero, List.cons_append, List.nil_append] at hinv hKL4 ⊢
  obtain ⟨hk, hall⟩ := hinv
  refine gc_seq fun K5 hK5 => ?_
  refine gc_region ?_
  refine g_v (.free rfl) rfl rfl (qt_lss rfl rfl rfl) ?_
  refine g_nil ?_
  refine gk_then (hK5 _ _ ?_)
  refine gc_seq fun K6 hK6 => ?_
  refine gc_cond rfl (fun hc0 => ?_) (fun hc0 => ?_)
  · try simp only [decide_eq_true_eq, decide_eq_false_iff_not, Bool.not_eq_true', Bool.not_eq_false', Bool.not_eq_eq_eq_not, Bool.not_true, Bool.not_false, ne_eq, Decidable.not_not, Classical.not_not] at hc0
    refine gc_skip ?_
    refine gk_then (hK6 _ _ ?_)
    refine gc_seq fun K7 hK7 => ?_
    refine gc_block ?_
    refine gc_seq fun K8 hK8 => ?_
    refine gc_region ?_
    refine g_v (.free rfl) rfl rfl (qt_move rfl rfl) ?_
    refine g_v (.free rfl) rfl rfl (qt_index rfl rfl rfl ulE1 szE1 (fun w M => lenA_rd hv) (by omega) (by omega)) ?_
    refine g_v (.free rfl) rfl rfl (qt_load1 rfl rfl Try.underlying2 rfl (fun w M => mem_rd M hv) (by omega) (by omega)) ?_
    refine g_v (.free rfl) rfl rfl (qt_assign rfl rfl) ?_
    refine g_v (.free rfl) rfl rfl (qt_assign rfl rfl) ?_
    refine g_nil ?_
    refine gk_then (hK8 _ _ ?_)
    refine gc_seq fun K9 hK9 => ?_
    refine gc_region ?_
    refine g_v (.free rfl) rfl rfl (qt_move rfl rfl) ?_
    refine g_v (.free rfl) rfl rfl (qt_move rfl rfl) ?_
    refine g_v (.free rfl) rfl rfl (qt_move rfl rfl) ?_
    refine g_v (.free rfl) rfl rfl (qt_index rfl rfl rfl ulE1 szE1 (fun w M => lenA_rd hu) (by omega) (by omega)) ?_
    refine g_v (.free rfl) rfl rfl (qt_load1 rfl rfl Try.underlying2 rfl (fun w M => mem_rd M hu) (by omega) (by omega)) ?_
    refine g_v (.free rfl) rfl rfl (qt_gtr rfl rfl rfl) ?_
    refine g_nil ?_
    refine gk_then (hK9 _ _ ?_)
    refine gc_cond rfl (fun hc1 => ?_) (fun hc1 => ?_)
    · try simp only [decide_eq_true_eq, decide_eq_false_iff_not, Bool.not_eq_true', Bool.not_eq_false', Bool.not_eq_eq_eq_not, Bool.not_true, Bool.not_false, ne_eq, Decidable.not_not, Classical.not_not] at hc1
      refine gc_seq fun K10 hK10 => ?_
      refine gc_region ?_
      refine g_v (.free rfl) rfl rfl (qt_assign rfl rfl) ?_
      refine g_nil ?_
      refine gk_then (hK10 _ _ ?_)
      refine gc_ret ?_
      refine gk_block_ret ?_
      refine gk_then_ret ?_
      refine gk_then_ret ?_
      refine gk_block_ret ?_
      refine gk_then_ret ?_
      refine ret_1 rfl rfl  (fun w M => ?_)
      rw [bP_f (fun h : ∀ j : Nat, j < ys.length → at0 ys (j : Int) ≤ at0 xs (j : Int) => by have := h k (by omega); omega)]; exact ⟨rfl, M.1⟩
    · try simp only [decide_eq_true_eq, decide_eq_false_iff_not, Bool.not_eq_true', Bool.not_eq_false', Bool.not_eq_eq_eq_not, Bool.not_true, Bool.not_false, ne_eq, Decidable.not_not, Classical.not_not] at hc1
      refine gc_skip ?_
      refine gk_block ?_
      refine gk_then (hK7 _ _ ?_)
      refine gc_region ?_
      refine g_v (.free rfl) rfl rfl (qt_add rfl rfl rfl (by omega)) ?_
      refine g_v (.free rfl) rfl rfl (qt_move rfl rfl) ?_
      refine g_nil ?_
      refine gk_then (gk_take 0 ?_)
      refine gk_sub ?hs_11 (hKL4 (k + 1) ?hi_11 ?hm_11)
      case hs_11 => exact (sub_cons rfl (sub_cons rfl (sub_cons rfl (sub_cons rfl (sub_cons rfl sub_nil)))))
      case hi_11 => exact ⟨by omega, all_next hall (by omega)⟩
      case hm_11 => omega
  · try simp only [decide_eq_true_eq, decide_eq_false_iff_not, Bool.not_eq_true', Bool.not_eq_false', Bool.not_eq_eq_eq_not, Bool.not_true, Bool.not_false, ne_eq, Decidable.not_not, Classical.not_not] at hc0
    refine gc_exit ?_
    refine gk_then_exit ?_
    refine gk_then_exit ?_
    refine gk_block_hit ?_
    refine gk_then (hK2 _ _ ?_)
    refine gc_seq fun K12 hK12 => ?_
    refine gc_region ?_
    refine g_v (.free rfl) rfl rfl (qt_assign rfl rfl) ?_
    refine g_nil ?_
    refine gk_then (hK12 _ _ ?_)
    refine gc_ret ?_
    refine ret_1 rfl rfl  (fun w M => ?_)
    obtain rfl : k = ys.length := by omega
    rw [bP_t hall]; exact ⟨rfl, M.1⟩

set_option maxHeartbeats 1000000 in
set_option maxRecDepth 100000 in
theorem isPreorder_any (w : World) (u : Value) (r : List (List Int)) (hu : Rd2 w u r) :
    Calls Try.prog 54 #[u] w (RetB w (bP (PreP r))) := by
  obtain ⟨ua, uc, rfl⟩ := rd2_form hu
  have hul := rd2_len hu
  go_enter Try.func54, Try.ntmps54
  refine gc_enter (N := 42) rfl (look_cons (k := 0) rfl (look_nil _)) ?_
  refine gc_seq fun K1 hK1 => ?_
  refine gc_region ?_
  refine g_v (.free rfl) rfl rfl (qt_assign rfl rfl) ?_
  refine g_nil ?_
  refine gk_then (hK1 _ _ ?_)
  refine gc_seq fun K2 hK2 => ?_
  refine gc_seq fun K3 hK3 => ?_
  refine gc_region ?_
  refine g_v (.free rfl) rfl rfl (qt_move rfl rfl) ?_
  refine g_q (.free rfl) rfl rfl (qt_call rfl Try.func61 rfl (by decide) rfl (fun w M => isSquare_any w _ _ _ (mem_rd2 M hu))) ?_
  refine g_v (.free rfl) rfl rfl (qt_not rfl rfl) ?_
  refine g_nil ?_
  refine gk_then (hK3 _ _ ?_)
  refine gc_cond rfl (fun hc0 => ?_) (fun hc0 => ?_)
  · try simp only [decide_eq_true_eq, decide_eq_false_iff_not, Bool.not_eq_true', Bool.not_eq_false', Bool.not_eq_eq_eq_not, Bool.not_true, Bool.not_false, ne_eq, Decidable.not_not, Classical.not_not] at hc0
    refine gc_seq fun K4 hK4 => ?_
    refine gc_region ?_
    refine g_v (.free rfl) rfl rfl (qt_assign rfl rfl) ?_
    refine g_nil ?_
    refine gk_then (hK4 _ _ ?_)
    refine gc_ret ?_
    refine gk_then_ret ?_
    refine ret_1 rfl rfl  (fun w M => ?_)
    rw [bP_f (fun h : PreP r => (bP_f' hc0) h.1)]; exact ⟨rfl, M.1⟩
  · try simp only [decide_eq_true_eq, decide_eq_false_iff_not, Bool.not_eq_true', Bool.not_eq_false', Bool.not_eq_eq_eq_not, Bool.not_true, Bool.not_false, ne_eq, Decidable.not_not, Classical.not_not] at hc0
    refine gc_skip ?_
    refine gk_then (hK2 _ _ ?_)
    refine gc_seq fun K5 hK5 => ?_
    refine gc_seq fun K6 hK6 => ?_
    have hsq : SquareP r 2 := bP_t' hc0
    refine gc_region ?_
    refine g_v (.free rfl) rfl rfl (qt_move rfl rfl) ?_
    refine g_v (.free rfl) rfl rfl (qt_len rfl rfl ulE2 (fun w M => lenV_rd2 hu)) ?_
    refine g_v (.free rfl) rfl rfl (qt_move rfl rfl) ?_
    refine g_nil ?_
    refine gk_then (hK6 _ _ ?_)
    refine gc_block ?_
    try simp only [List.nil_append, List.cons_append, List.append_assoc, List.set_cons_succ, List.set_cons_zero]
    refine gc_loop ([(0, _), (9, _), (10, _), (11, _)] : Env) (fun s : Nat => (fun (k : Nat) => ([(12, .int .i64 (k : Int))] : Env)) s) (fun s : Nat => (fun (k : Nat) => ([] : List (Nat × Itm))) s) (fun s : Nat => (fun (k : Nat) => k ≤ r.length ∧ ∀ i : Nat, i < k → PreRow r i) s) (fun s : Nat => (fun (k : Nat) => r.length - k) s) (0) (sub_cons rfl (sub_cons rfl (sub_cons rfl (sub_cons rfl (sub_cons rfl sub_nil))))) rfl ⟨Nat.zero_le _, fun f hf => absurd hf (by omega)⟩ ?_
    rintro k hinv KL7 hKL7
    simp only [updL, List.foldl_cons, List.foldl_nil, List.set_cons_succ, List.set_cons_zero, List.cons_append, List.nil_append] at hinv hKL7 ⊢
    obtain ⟨hk, hall⟩ := hinv
    refine gc_seq fun K8 hK8 => ?_
    refine gc_region ?_
    refine g_v (.free rfl) rfl rfl (qt_lss rfl rfl rfl) ?_
    refine g_nil ?_
    refine gk_then (hK8 _ _ ?_)
    refine gc_seq fun K9 hK9 => ?_
    refine gc_cond rfl (fun hc1 => ?_) (fun hc1 => ?_)
    · try simp only [decide_eq_true_eq, decide_eq_false_iff_not, Bool.not_eq_true', Bool.not_eq_false', Bool.not_eq_eq_eq_not, Bool.not_true, Bool.not_false, ne_eq, Decidable.not_not, Classical.not_not] at hc1
      refine gc_skip ?_
      refine gk_then (hK9 _ _ ?_)
      refine gc_seq fun K10 hK10 => ?_
      refine gc_block ?_
      refine gc_seq fun K11 hK11 => ?_
      refine gc_region ?_
      refine g_v (.free rfl) rfl rfl (qt_move rfl rfl) ?_
      refine g_v (.free rfl) rfl rfl (qt_index rfl rfl rfl ulE2 szE2 (fun w M => lenA_rd2 hu) (by omega) (by omega)) ?_
      refine g_load2 (.free rfl) rfl rfl rfl rfl Try.underlying22 rfl hu (by omega) (by omega) ?_
      intro ra12 rc12 hr12
      refine g_v (.free rfl) rfl rfl (qt_assign rfl rfl) ?_
      refine g_v (.free rfl) rfl rfl (qt_assign rfl rfl) ?_
      refine g_nil ?_
      refine gk_then (hK11 _ _ ?_)
      refine gc_seq fun K13 hK13 => ?_
      refine gc_seq fun K14 hK14 => ?_
      have hq1 := (hsq k (by omega)).1
      refine gc_region ?_
      refine g_v (.free rfl) rfl rfl (qt_move rfl rfl) ?_
      refine g_v (.free rfl) rfl rfl (qt_move rfl rfl) ?_
      refine g_v (.free rfl) rfl rfl (qt_index rfl rfl rfl ulE1 szE1 (fun w M => lenA_rd hr12) (by omega) (by omega)) ?_
      refine g_v (.free rfl) rfl rfl (qt_load1 rfl rfl Try.underlying2 rfl (fun w M => mem_rd M hr12) (by omega) (by omega)) ?_
      refine g_v (.free rfl) rfl rfl (qt_neq rfl rfl rfl) ?_
      refine g_nil ?_
      refine gk_then (hK14 _ _ ?_)
      refine gc_cond rfl (fun hc2 => ?_) (fun hc2 => ?_)
      · try simp only [decide_eq_true_eq, decide_eq_false_iff_not, Bool.not_eq_true', Bool.not_eq_false', Bool.not_eq_eq_eq_not, Bool.not_true, Bool.not_false, ne_eq, Decidable.not_not, Classical.not_not] at hc2
        refine gc_seq fun K15 hK15 => ?_
        refine gc_region ?_
        refine g_v (.free rfl) rfl rfl (qt_assign rfl rfl) ?_
        refine g_nil ?_
        refine gk_then (hK15 _ _ ?_)
        refine gc_ret ?_
        refine gk_then_ret ?_
        refine gk_block_ret ?_
        refine gk_then_ret ?_
        refine gk_then_ret ?_
        refine gk_block_ret ?_
        refine gk_then_ret ?_
        refine ret_1 rfl rfl  (fun w M => ?_)
        rw [bP_f (fun h : PreP r => hc2 (h.2 k (by omega)).1)]; exact ⟨rfl, M.1⟩
      · try simp only [decide_eq_true_eq, decide_eq_false_iff_not, Bool.not_eq_true', Bool.not_eq_false', Bool.not_eq_eq_eq_not, Bool.not_true, Bool.not_false, ne_eq, Decidable.not_not, Classical.not_not] at hc2
        refine gc_skip ?_
        refine gk_then (hK13 _ _ ?_)
        refine gc_seq fun K16 hK16 => ?_
        refine gc_region ?_
        refine g_v (.free rfl) rfl rfl (qt_move rfl rfl) ?_
        refine g_v (.free rfl) rfl rfl (qt_len rfl rfl ulE1 (fun w M => lenV_rd hr12)) ?_
        refine g_v (.free rfl) rfl rfl (qt_move rfl rfl) ?_
        refine g_nil ?_
        refine gk_then (hK16 _ _ ?_)
        refine gc_block ?_
        try simp only [List.nil_append, List.cons_append, List.append_assoc, List.set_cons_succ, List.set_cons_zero]
        refine gc_loop ([(0, _), (3, _), (4, _), (9, _), (10, _), (11, _), (12, _), (13, _), (21, _), (22, _), (23, _)] : Env) (fun s : Nat => (fun (l : Nat) => ([(24, .int .i64 (l : Int))] : Env)) s) (fun s : Nat => (fun (l : Nat) => ([] : List (Nat × Itm))) s) (fun s : Nat => (fun (l : Nat) => l ≤ r.length ∧ ∀ j : Nat, j < l → at0 (row2 r (k : Int)) (j : Int) = 1 → incl r k j) s) (fun s : Nat => (fun (l : Nat) => r.length - l) s) (0) (sub_cons rfl (sub_cons rfl (sub_cons rfl (sub_cons rfl (sub_cons rfl (sub_cons rfl (sub_cons rfl (sub_cons rfl (sub_cons rfl (sub_cons rfl (sub_cons rfl (sub_cons rfl sub_nil)))))))))))) rfl ⟨Nat.zero_le _, fun f hf => absurd hf (by omega)⟩ ?_
        rintro l hinv KL17 hKL17
        simp only [updL, List.foldl_cons, List.foldl_nil, List.set_cons_succ, List.set_cons_zero, List.cons_append, List.nil_append] at hinv hKL17 ⊢
        obtain ⟨hl, hin⟩ := hinv
        refine gc_seq fun K18 hK18 => ?_
        refine gc_region ?_
        refine g_v (.free rfl) rfl rfl (qt_lss rfl rfl rfl) ?_
        refine g_nil ?_
        refine gk_then (hK18 _ _ ?_)
        refine gc_seq fun K19 hK19 => ?_
        refine gc_cond rfl (fun hc3 => ?_) (fun hc3 => ?_)
        · try simp only [decide_eq_true_eq, decide_eq_false_iff_not, Bool.not_eq_true', Bool.not_eq_false', Bool.not_eq_eq_eq_not, Bool.not_true, Bool.not_false, ne_eq, Decidable.not_not, Classical.not_not] at hc3
          refine gc_skip ?_
          refine gk_then (hK19 _ _ ?_)
          refine gc_seq fun K20 hK20 => ?_
          refine gc_block ?_
          refine gc_seq fun K21 hK21 => ?_
          refine gc_region ?_
          refine g_v (.free rfl) rfl rfl (qt_move rfl rfl) ?_
          refine g_v (.free rfl) rfl rfl (qt_index rfl rfl rfl ulE1 szE1 (fun w M => lenA_rd hr12) (by omega) (by omega)) ?_
          refine g_v (.free rfl) rfl rfl (qt_load1 rfl rfl Try.underlying2 rfl (fun w M => mem_rd M hr12) (by omega) (by omega)) ?_
          refine g_v (.free rfl) rfl rfl (qt_assign rfl rfl) ?_
          refine g_v (.free rfl) rfl rfl (qt_assign rfl rfl) ?_
          refine g_nil ?_
          refine gk_then (hK21 _ _ ?_)
          refine gc_seq fun K22 hK22 => ?_
          have hq2 := (hsq l (by omega)).1
          refine gc_region ?_
          refine g_v (.free rfl) rfl rfl (qt_move rfl rfl) ?_
          refine g_v (.free rfl) rfl rfl (qt_eql rfl rfl rfl) ?_
          refine g_splitv (.free rfl) rfl rfl (qt_move rfl rfl) (fun hs11_2 => ?_) (fun hs11_2 => ?_)
          · try simp only [decide_eq_true_eq, decide_eq_false_iff_not, Bool.not_eq_true', Bool.not_eq_false', Bool.not_eq_eq_eq_not, Bool.not_true, Bool.not_false, ne_eq, Decidable.not_not, Classical.not_not] at hs11_2
            refine g_v (.held _ _ _ rfl rfl rfl) rfl rfl (qt_move rfl rfl) ?_
            refine g_v (.held _ _ _ rfl rfl rfl) rfl rfl (qt_move rfl rfl) ?_
            refine g_v (.held _ _ _ rfl rfl rfl) rfl rfl (qt_move rfl rfl) ?_
            refine g_v (.held _ _ _ rfl rfl rfl) rfl rfl (qt_index rfl rfl rfl ulE2 szE2 (fun w M => lenA_rd2 hu) (by omega) (by omega)) ?_
            refine g_load2 (.held _ _ _ rfl rfl rfl) rfl rfl rfl rfl Try.underlying22 rfl hu (by omega) (by omega) ?_
            intro ra23 rc23 hr23
            refine g_q (.held _ _ _ rfl rfl rfl) rfl rfl (qt_call rfl Try.func78 rfl (by decide) rfl (fun w M => includes_any w _ _ _ _ (mem_rd M hr12) (mem_rd M hr23) (by omega))) ?_
            refine g_v (.held _ _ _ rfl rfl rfl) rfl rfl (qt_not rfl rfl) ?_
            refine g_v (.free rfl) rfl rfl (qt_pick_t rfl rfl rfl) ?_
            refine g_nil ?_
            refine gk_then (hK22 _ _ ?_)
            refine gc_cond rfl (fun hc4 => ?_) (fun hc4 => ?_)
            · try simp only [decide_eq_true_eq, decide_eq_false_iff_not, Bool.not_eq_true', Bool.not_eq_false', Bool.not_eq_eq_eq_not, Bool.not_true, Bool.not_false, ne_eq, Decidable.not_not, Classical.not_not] at hc4
              refine gc_seq fun K24 hK24 => ?_
              refine gc_region ?_
              refine g_v (.free rfl) rfl rfl (qt_assign rfl rfl) ?_
              refine g_nil ?_
              refine gk_then (hK24 _ _ ?_)
              refine gc_ret ?_
              refine gk_block_ret ?_
              refine gk_then_ret ?_
              refine gk_then_ret ?_
              refine gk_block_ret ?_
              refine gk_block_ret ?_
              refine gk_then_ret ?_
              refine gk_then_ret ?_
              refine gk_block_ret ?_
              refine gk_then_ret ?_
              refine ret_1 rfl rfl  (fun w M => ?_)
              rw [bP_f (fun h : PreP r => incl_not hsq (by omega) (by omega) hs11_2 (fun hi => bP_f' hc4 fun m hm => hi m (by omega)) (h.2 k (by omega)))]; exact ⟨rfl, M.1⟩
            · try simp only [decide_eq_true_eq, decide_eq_false_iff_not, Bool.not_eq_true', Bool.not_eq_false', Bool.not_eq_eq_eq_not, Bool.not_true, Bool.not_false, ne_eq, Decidable.not_not, Classical.not_not] at hc4
              refine gc_skip ?_
              refine gk_block ?_
              refine gk_then (hK20 _ _ ?_)
              refine gc_region ?_
              refine g_v (.free rfl) rfl rfl (qt_add rfl rfl rfl (by omega)) ?_
              refine g_v (.free rfl) rfl rfl (qt_move rfl rfl) ?_
              refine g_nil ?_
              refine gk_then (gk_take 0 ?_)
              refine gk_sub ?hs_25 (hKL17 (l + 1) ?hi_25 ?hm_25)
              case hs_25 => exact (sub_cons rfl (sub_cons rfl (sub_cons rfl (sub_cons rfl (sub_cons rfl (sub_cons rfl (sub_cons rfl (sub_cons rfl (sub_cons rfl (sub_cons rfl (sub_cons rfl (sub_cons rfl sub_nil))))))))))))
              case hi_25 => exact ⟨by omega, all_next hin fun _ m hm => bP_t' hc4 m (by omega)⟩
              case hm_25 => omega
          · try simp only [decide_eq_true_eq, decide_eq_false_iff_not, Bool.not_eq_true', Bool.not_eq_false', Bool.not_eq_eq_eq_not, Bool.not_true, Bool.not_false, ne_eq, Decidable.not_not, Classical.not_not] at hs11_2
            refine g_skip (.not _ _ _ _ rfl rfl rfl rfl) rfl rfl ?_
            refine g_skip (.not _ _ _ _ rfl rfl rfl rfl) rfl rfl ?_
            refine g_skip (.not _ _ _ _ rfl rfl rfl rfl) rfl rfl ?_
            refine g_skip (.not _ _ _ _ rfl rfl rfl rfl) rfl rfl ?_
            refine g_skip (.not _ _ _ _ rfl rfl rfl rfl) rfl rfl ?_
            refine g_skip (.not _ _ _ _ rfl rfl rfl rfl) rfl rfl ?_
            refine g_skip (.not _ _ _ _ rfl rfl rfl rfl) rfl rfl ?_
            refine g_v (.free rfl) rfl rfl (qt_pick_f rfl rfl rfl) ?_
            refine g_nil ?_
            refine gk_then (hK22 _ _ ?_)
            refine gc_cond_f rfl ?_
            refine gc_skip ?_
            refine gk_block ?_
            refine gk_then (hK20 _ _ ?_)
            refine gc_region ?_
            refine g_v (.free rfl) rfl rfl (qt_add rfl rfl rfl (by omega)) ?_
            refine g_v (.free rfl) rfl rfl (qt_move rfl rfl) ?_
            refine g_nil ?_
            refine gk_then (gk_take 0 ?_)
            refine gk_sub ?hs_26 (hKL17 (l + 1) ?hi_26 ?hm_26)
            case hs_26 => exact (sub_cons rfl (sub_cons rfl (sub_cons rfl (sub_cons rfl (sub_cons rfl (sub_cons rfl (sub_cons rfl (sub_cons rfl (sub_cons rfl (sub_cons rfl (sub_cons rfl (sub_cons rfl sub_nil))))))))))))
            case hi_26 => exact ⟨by omega, all_next hin fun h => absurd h hs11_2⟩
            case hm_26 => omega
        · try simp only [decide_eq_true_eq, decide_eq_false_iff_not, Bool.not_eq_true', Bool.not_eq_false', Bool.not_eq_eq_eq_not, Bool.not_true, Bool.not_false, ne_eq, Decidable.not_not, Classical.not_not] at hc3
          refine gc_exit ?_
          refine gk_then_exit ?_
          refine gk_then_exit ?_
          refine gk_block_hit ?_
          refine gk_block ?_
          refine gk_then (hK10 _ _ ?_)
          refine gc_region ?_
          refine g_v (.free rfl) rfl rfl (qt_add rfl rfl rfl (by omega)) ?_
          refine g_v (.free rfl) rfl rfl (qt_move rfl rfl) ?_
          refine g_nil ?_
          refine gk_then (gk_take 0 ?_)
          refine gk_sub ?hs_27 (hKL7 (k + 1) ?hi_27 ?hm_27)
          case hs_27 => exact (sub_cons rfl (sub_cons rfl (sub_cons rfl (sub_cons rfl (sub_cons rfl sub_nil)))))
          case hi_27 => exact ⟨by omega, all_next hall (incl_row hsq (by omega) hc2 fun j hj => hin j (by omega))⟩
          case hm_27 => omega
    · try simp only [decide_eq_true_eq, decide_eq_false_iff_not, Bool.not_eq_true', Bool.not_eq_false', Bool.not_eq_eq_eq_not, Bool.not_true, Bool.not_false, ne_eq, Decidable.not_not, Classical.not_not] at hc1
      refine gc_exit ?_
      refine gk_then_exit ?_
      refine gk_then_exit ?_
      refine gk_block_hit ?_
      refine gk_then (hK5 _ _ ?_)
      refine gc_seq fun K28 hK28 => ?_
      refine gc_region ?_
      refine g_v (.free rfl) rfl rfl (qt_assign rfl rfl) ?_
      refine g_nil ?_
      refine gk_then (hK28 _ _ ?_)
      refine gc_ret ?_
      refine ret_1 rfl rfl  (fun w M => ?_)
      obtain rfl : k = r.length := by omega
      rw [bP_t (show PreP r from ⟨hsq, hall⟩)]; exact ⟨rfl, M.1⟩

set_option maxHeartbeats 1000000 in
set_option maxRecDepth 100000 in
theorem isObCount_any (w : World) (n : Int) :
    Calls Try.prog 28 #[.int .i64 n] w (RetB w (decide (0 ≤ n ∧ n ≤ 8))) := by
  go_enter Try.func28, Try.ntmps28
  refine gc_enter (N := 9) rfl (look_cons (k := 0) rfl (look_nil _)) ?_
  refine gc_seq fun K1 hK1 => ?_
  refine gc_region ?_
  refine g_v (.free rfl) rfl rfl (qt_assign rfl rfl) ?_
  refine g_nil ?_
  refine gk_then (hK1 _ _ ?_)
  refine gc_seq fun K2 hK2 => ?_
  refine gc_region ?_
  refine g_v (.free rfl) rfl rfl (qt_move rfl rfl) ?_
  refine g_v (.free rfl) rfl rfl (qt_leq rfl rfl rfl) ?_
  refine g_splitv (.free rfl) rfl rfl (qt_move rfl rfl) (fun hs1_2 => ?_) (fun hs1_2 => ?_)
  · try simp only [decide_eq_true_eq, decide_eq_false_iff_not, Bool.not_eq_true', Bool.not_eq_false', Bool.not_eq_eq_eq_not, Bool.not_true, Bool.not_false, ne_eq, Decidable.not_not, Classical.not_not] at hs1_2
    refine g_v (.held _ _ _ rfl rfl rfl) rfl rfl (qt_move rfl rfl) ?_
    refine g_v (.held _ _ _ rfl rfl rfl) rfl rfl (qt_leq rfl rfl rfl) ?_
    refine g_v (.free rfl) rfl rfl (qt_pick_t rfl rfl rfl) ?_
    refine g_v (.free rfl) rfl rfl (qt_assign rfl rfl) ?_
    refine g_nil ?_
    refine gk_then (hK2 _ _ ?_)
    refine gc_ret ?_
    refine ret_1 rfl rfl  (fun w M => ?_)
    rw [show decide (0 ≤ n ∧ n ≤ 8) = decide (n ≤ 8) from decide_eq_decide.2 ⟨fun h => h.2, fun h => ⟨by omega, h⟩⟩]; exact ⟨rfl, M.1⟩
  · try simp only [decide_eq_true_eq, decide_eq_false_iff_not, Bool.not_eq_true', Bool.not_eq_false', Bool.not_eq_eq_eq_not, Bool.not_true, Bool.not_false, ne_eq, Decidable.not_not, Classical.not_not] at hs1_2
    refine g_skip (.not _ _ _ _ rfl rfl rfl rfl) rfl rfl ?_
    refine g_skip (.not _ _ _ _ rfl rfl rfl rfl) rfl rfl ?_
    refine g_v (.free rfl) rfl rfl (qt_pick_f rfl rfl rfl) ?_
    refine g_v (.free rfl) rfl rfl (qt_assign rfl rfl) ?_
    refine g_nil ?_
    refine gk_then (hK2 _ _ ?_)
    refine gc_ret ?_
    refine ret_1 rfl rfl  (fun w M => ?_)
    rw [decide_eq_false (show ¬ (0 ≤ n ∧ n ≤ 8) by omega)]; exact ⟨rfl, M.1⟩

set_option maxHeartbeats 1000000 in
set_option maxRecDepth 100000 in
theorem preC1_any (w : World) (x : Int) :
    Calls Try.prog 55 #[.int .i64 x] w (RetV w (.bool true)) := by
  go_enter Try.func55, Try.ntmps55
  refine gc_enter (N := 3) rfl (look_cons (k := 0) rfl (look_nil _)) ?_
  refine gc_seq fun K1 hK1 => ?_
  refine gc_region ?_
  refine g_v (.free rfl) rfl rfl (qt_assign rfl rfl) ?_
  refine g_nil ?_
  refine gk_then (hK1 _ _ ?_)
  refine gc_seq fun K2 hK2 => ?_
  refine gc_region ?_
  refine g_v (.free rfl) rfl rfl (qt_assign rfl rfl) ?_
  refine g_nil ?_
  refine gk_then (hK2 _ _ ?_)
  refine gc_ret ?_
  refine ret_1 rfl rfl  (fun w M => ?_)
  exact ⟨rfl, M.1⟩

set_option maxHeartbeats 1000000 in
set_option maxRecDepth 100000 in
theorem preC2_any (w : World) (f g : Bool) :
    Calls Try.prog 56 #[.bool f, .bool g] w (RetV w (.bool (f && g))) := by
  go_enter Try.func56, Try.ntmps56
  refine gc_enter (N := 9) rfl (look_cons (k := 0) rfl (look_cons (k := 1) rfl (look_nil _))) ?_
  refine gc_seq fun K1 hK1 => ?_
  refine gc_region ?_
  refine g_v (.free rfl) rfl rfl (qt_assign rfl rfl) ?_
  refine g_nil ?_
  refine gk_then (hK1 _ _ ?_)
  refine gc_seq fun K2 hK2 => ?_
  refine gc_region ?_
  refine g_v (.free rfl) rfl rfl (qt_move rfl rfl) ?_
  refine g_splitv (.free rfl) rfl rfl (qt_move rfl rfl) (fun hs1_1 => ?_) (fun hs1_1 => ?_)
  · try simp only [decide_eq_true_eq, decide_eq_false_iff_not, Bool.not_eq_true', Bool.not_eq_false', Bool.not_eq_eq_eq_not, Bool.not_true, Bool.not_false, ne_eq, Decidable.not_not, Classical.not_not] at hs1_1
    refine g_v (.held _ _ _ rfl rfl rfl) rfl rfl (qt_move rfl rfl) ?_
    refine g_v (.free rfl) rfl rfl (qt_pick_t rfl rfl rfl) ?_
    refine g_v (.free rfl) rfl rfl (qt_assign rfl rfl) ?_
    refine g_nil ?_
    refine gk_then (hK2 _ _ ?_)
    refine gc_ret ?_
    refine ret_1 rfl rfl  (fun w M => ?_)
    subst hs1_1; exact ⟨rfl, M.1⟩
  · try simp only [decide_eq_true_eq, decide_eq_false_iff_not, Bool.not_eq_true', Bool.not_eq_false', Bool.not_eq_eq_eq_not, Bool.not_true, Bool.not_false, ne_eq, Decidable.not_not, Classical.not_not] at hs1_1
    refine g_skip (.not _ _ _ _ rfl rfl rfl rfl) rfl rfl ?_
    refine g_v (.free rfl) rfl rfl (qt_pick_f rfl rfl rfl) ?_
    refine g_v (.free rfl) rfl rfl (qt_assign rfl rfl) ?_
    refine g_nil ?_
    refine gk_then (hK2 _ _ ?_)
    refine gc_ret ?_
    refine ret_1 rfl rfl  (fun w M => ?_)
    subst hs1_1; exact ⟨rfl, M.1⟩

end Go.Proofs.Ytbfenibkbmkcaab
