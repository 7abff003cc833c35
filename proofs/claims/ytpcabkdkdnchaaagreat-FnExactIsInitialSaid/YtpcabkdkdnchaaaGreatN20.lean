import Derived.Test.YtpcabkdkdnchaaaGreatN19
import Derived.Test.YtpcabkdkdnchaaaGreatN11
set_option linter.unusedSimpArgs false
set_option linter.unusedVariables false
set_option linter.unusedSectionVars false
namespace Go.Proofs.YtpcabkdkdnchaaaGreat
open Go.RowKit
def imp3 (r : List (List Int)) (i j m : Nat) : Prop := at0 (row2 r (i : Int)) (j : Int) = 1 → at0 (row2 r (j : Int)) (m : Int) = 1 → at0 (row2 r (i : Int)) (m : Int) = 1
def PreRow (r : List (List Int)) (i : Nat) : Prop := at0 (row2 r (i : Int)) (i : Int) = 1 ∧ ∀ j : Nat, j < r.length → ∀ m : Nat, m < r.length → imp3 r i j m
def PreP (r : List (List Int)) : Prop := SquareP r 2 ∧ ∀ i : Nat, i < r.length → PreRow r i
def incl (r : List (List Int)) (i j : Nat) : Prop := ∀ m : Nat, m < r.length → at0 (row2 r (j : Int)) (m : Int) ≤ at0 (row2 r (i : Int)) (m : Int)
theorem incl_row {r : List (List Int)} (hs : SquareP r 2) {i : Nat} (hi : i < r.length) (hd : at0 (row2 r (i : Int)) (i : Int) = 1) (h : ∀ j : Nat, j < r.length → at0 (row2 r (i : Int)) (j : Int) = 1 → incl r i j) : PreRow r i :=
  ⟨hd, fun j hj m hm h1 h2 => by have h3 := h j hj h1 m hm; have h4 := sq_at hs hi hm; omega⟩
theorem incl_not {r : List (List Int)} (hs : SquareP r 2) {i j : Nat} (hi : i < r.length) (hj : j < r.length) (h1 : at0 (row2 r (i : Int)) (j : Int) = 1) (h : ¬ incl r i j) : ¬ PreRow r i := fun hp => h fun m hm => by
  have h3 := hp.2 j hj m hm h1
  have h4 := sq_at hs hi hm
  have h5 := sq_at hs hj hm
  by_cases h6 : at0 (row2 r (j : Int)) (m : Int) = 1
  · rw [h6, h3 h6]; exact Int.le_refl 1
  · omega
noncomputable def fPreorderCategory (r : List (List Int)) : Cat × Int := if bP (PreP r) = true then (if r.length ≤ 8 then (if bP (FitP (posetC r)) = true then (posetC r, 0) else (cat0, 3)) else (cat0, 2)) else (cat0, 1)
theorem pre_n {r : List (List Int)} (h : bP (PreP r) = false) : fPreorderCategory r = (cat0, 1) := if_neg (by rw [h]; decide)
theorem pre_r {r : List (List Int)} (h : bP (PreP r) = true) (h' : ¬ r.length ≤ 8) : fPreorderCategory r = (cat0, 2) := by unfold fPreorderCategory; rw [if_pos h, if_neg h']
theorem pre_l {r : List (List Int)} (h : bP (PreP r) = true) (h' : r.length ≤ 8) (hf : ¬ FitP (posetC r)) : fPreorderCategory r = (cat0, 3) := by unfold fPreorderCategory; rw [if_pos h, if_pos h', if_neg (by rw [bP_f hf]; decide)]
theorem pre_t {r : List (List Int)} (h : bP (PreP r) = true) (h' : r.length ≤ 8) (hf : FitP (posetC r)) : fPreorderCategory r = (posetC r, 0) := by unfold fPreorderCategory; rw [if_pos h, if_pos h', if_pos (bP_t hf)]
set_option maxHeartbeats 1000000 in
set_option maxRecDepth 100000 in
theorem includes_any (w : World) (u v : Value) (xs ys : List Int) (hu : Rd w u xs) (hv : Rd w v ys) (hl : xs.length = ys.length) :
    Calls Tryz.prog 177 #[u, v] w (RetB w (bP (∀ j : Nat, j < ys.length → at0 ys (j : Int) ≤ at0 xs (j : Int)))) := by
  obtain ⟨ua, uc, rfl⟩ := rd_form hu
  obtain ⟨va, vc, rfl⟩ := rd_form hv
  have hyl : ys.length ≤ 17592186044415 := by obtain ⟨_, _, _, hl, _⟩ := hv; exact hl
  go_enter Tryz.func177, Tryz.ntmps177
  refine gc_enter (N := 21) rfl (look_cons (k := 0) rfl (look_cons (k := 1) rfl (look_nil _))) ?_
  refine gc_seq fun K1 hK1 => ?_
  refine gc_region ?_
  refine g_v (.free rfl) rfl rfl (qt_assign rfl rfl) ?_
  refine g_nil ?_
  refine gk_then (hK1 _ _ ?_)
  refine gc_seq fun K2 hK2 => ?_
  refine gc_seq fun K3 hK3 => ?_
  refine gc_region ?_
  refine g_v (.free rfl) rfl rfl (qt_move rfl rfl) ?_
  refine g_v (.free rfl) rfl rfl (qt_len rfl rfl ulE1 (fun w M => lenV_rd hv)) ?_
  refine g_v (.free rfl) rfl rfl (qt_move rfl rfl) ?_
  refine g_nil ?_
  refine gk_then (hK3 _ _ ?_)
  refine gc_block ?_
  try simp only [List.nil_append, List.cons_append, List.append_assoc, List.set_cons_succ, List.set_cons_zero]
  refine gc_loop ([(0, _), (1, _), (7, _), (8, _)] : Env) (fun s : Nat => (fun (k : Nat) => ([(9, .int .i64 (k : Int))] : Env)) s) (fun s : Nat => (fun (k : Nat) => ([] : List (Nat × Itm))) s) (fun s : Nat => (fun (k : Nat) => k ≤ ys.length ∧ ∀ j : Nat, j < k → at0 ys (j : Int) ≤ at0 xs (j : Int)) s) (fun s : Nat => (fun (k : Nat) => ys.length - k) s) (0) (sub_cons rfl (sub_cons rfl (sub_cons rfl (sub_cons rfl (sub_cons rfl sub_nil))))) rfl ⟨Nat.zero_le _, fun f hf => absurd hf (by omega)⟩ ?_
  rintro k hinv KL4 hKL4
  simp only [updL, List.foldl_cons, List.foldl_nil, List.set_cons_succ, List.set_cons_zero, List.cons_append, List.nil_append] at hinv hKL4 ⊢
  obtain ⟨hk, hall⟩ := hinv
  refine gc_seq fun K5 hK5 => ?_
  refine gc_region ?_
  refine g_v (.free rfl) rfl rfl (qt_lss rfl rfl rfl) ?_
  refine g_nil ?_
  refine gk_then (hK5 _ _ ?_)
  refine gc_seq fun K6 hK6 => ?_
  refine gc_cond rfl (fun hc0 => ?_) (fun hc0 => ?_)
  · try simp only [decide_eq_true_eq, decide_eq_false_iff_not, Bool.not_eq_true', Bool.not_eq_false', Bool.not_eq_eq_eq_not, Bool.not_true, Bool.not_false, ne_eq, Decidable.not_not, Classical.not_not] at hc0
    refine gc_skip ?_
    refine gk_then (hK6 _ _ ?_)
    refine gc_seq fun K7 hK7 => ?_
    refine gc_block ?_
    refine gc_seq fun K8 hK8 => ?_
    refine gc_region ?_
    refine g_v (.free rfl) rfl rfl (qt_move rfl rfl) ?_
    refine g_v (.free rfl) rfl rfl (qt_index rfl rfl rfl ulE1 szE1 (fun w M => lenA_rd hv) (by omega) (by omega)) ?_
    refine g_v (.free rfl) rfl rfl (qt_load1 rfl rfl Tryz.underlying2 rfl (fun w M => mem_rd M hv) (by omega) (by omega)) ?_
    refine g_v (.free rfl) rfl rfl (qt_assign rfl rfl) ?_
    refine g_v (.free rfl) rfl rfl (qt_assign rfl rfl) ?_
    refine g_nil ?_
    refine gk_then (hK8 _ _ ?_)
    refine gc_seq fun K9 hK9 => ?_
    refine gc_region ?_
    refine g_v (.free rfl) rfl rfl (qt_move rfl rfl) ?_
    refine g_v (.free rfl) rfl rfl (qt_move rfl rfl) ?_
    refine g_v (.free rfl) rfl rfl (qt_move rfl rfl) ?_
    refine g_v (.free rfl) rfl rfl (qt_index rfl rfl rfl ulE1 szE1 (fun w M => lenA_rd hu) (by omega) (by omega)) ?_
    refine g_v (.free rfl) rfl rfl (qt_load1 rfl rfl Tryz.underlying2 rfl (fun w M => mem_rd M hu) (by omega) (by omega)) ?_
    refine g_v (.free rfl) rfl rfl (qt_gtr rfl rfl rfl) ?_
    refine g_nil ?_
    refine gk_then (hK9 _ _ ?_)
    refine gc_cond rfl (fun hc1 => ?_) (fun hc1 => ?_)
    · try simp only [decide_eq_true_eq, decide_eq_false_iff_not, Bool.not_eq_true', Bool.not_eq_false', Bool.not_eq_eq_eq_not, Bool.not_true, Bool.not_false, ne_eq, Decidable.not_not, Classical.not_not] at hc1
      refine gc_seq fun K10 hK10 => ?_
      refine gc_region ?_
      refine g_v (.free rfl) rfl rfl (qt_assign rfl rfl) ?_
      refine g_nil ?_
      refine gk_then (hK10 _ _ ?_)
      refine gc_ret ?_
      refine gk_block_ret ?_
      refine gk_then_ret ?_
      refine gk_then_ret ?_
      refine gk_block_ret ?_
      refine gk_then_ret ?_
      refine ret_1 rfl rfl  (fun w M => ?_)
      rw [bP_f (fun h : ∀ j : Nat, j < ys.length → at0 ys (j : Int) ≤ at0 xs (j : Int) => by have := h k (by omega); omega)]; exact ⟨rfl, M.1⟩
    · try simp only [decide_eq_true_eq, decide_eq_false_iff_not, Bool.not_eq_true', Bool.not_eq_false', Bool.not_eq_eq_eq_not, Bool.not_true, Bool.not_false, ne_eq, Decidable.not_not, Classical.not_not] at hc1
      refine gc_skip ?_
      refine gk_block ?_
      refine gk_then (hK7 _ _ ?_)
      refine gc_region ?_
      refine g_v (.free rfl) rfl rfl (qt_add rfl rfl rfl (by omega)) ?_
      refine g_v (.free rfl) rfl rfl (qt_move rfl rfl) ?_
      refine g_nil ?_
      refine gk_then (gk_take 0 ?_)
      refine gk_sub ?hs_11 (hKL4 (k + 1) ?hi_11 ?hm_11)
      case hs_11 => exact (sub_cons rfl (sub_cons rfl (sub_cons rfl (sub_cons rfl (sub_cons rfl sub_nil)))))
      case hi_11 => exact ⟨by omega, all_next hall (by omega)⟩
      case hm_11 => omega
  · try simp only [decide_eq_true_eq, decide_eq_false_iff_not, Bool.not_eq_true', Bool.not_eq_false', Bool.not_eq_eq_eq_not, Bool.not_true, Bool.not_false, ne_eq, Decidable.not_not, Classical.not_not] at hc0
    refine gc_exit ?_
    refine gk_then_exit ?_
    refine gk_then_exit ?_
    refine gk_block_hit ?_
    refine gk_then (hK2 _ _ ?_)
    refine gc_seq fun K12 hK12 => ?_
    refine gc_region ?_
    refine g_v (.free rfl) rfl rfl (qt_assign rfl rfl) ?_
    refine g_nil ?_
    refine gk_then (hK12 _ _ ?_)
    refine gc_ret ?_
    refine ret_1 rfl rfl  (fun w M => ?_)
    obtain rfl : k = ys.length := by omega
    rw [bP_t hall]; exact ⟨rfl, M.1⟩
set_option maxHeartbeats 1000000 in
set_option maxRecDepth 100000 in
theorem isPreorder_any (w : World) (u : Value) (r : List (List Int)) (hu : Rd2 w u r) :
    Calls Tryz.prog 166 #[u] w (RetB w (bP (PreP r))) := by
  obtain ⟨ua, uc, rfl⟩ := rd2_form hu
  have hul := rd2_len hu
  go_enter Tryz.func166, Tryz.ntmps166
  refine gc_enter (N := 42) rfl (look_cons (k := 0) rfl (look_nil _)) ?_
  refine gc_seq fun K1 hK1 => ?_
  refine gc_region ?_
  refine g_v (.free rfl) rfl rfl (qt_assign rfl rfl) ?_
  refine g_nil ?_
  refine gk_then (hK1 _ _ ?_)
  refine gc_seq fun K2 hK2 => ?_
  refine gc_seq fun K3 hK3 => ?_
  refine gc_region ?_
  refine g_v (.free rfl) rfl rfl (qt_move rfl rfl) ?_
  refine g_q (.free rfl) rfl rfl (qt_call rfl Tryz.func176 rfl (by decide) rfl (fun w M => isSquare_any w _ _ _ (mem_rd2 M hu))) ?_
  refine g_v (.free rfl) rfl rfl (qt_not rfl rfl) ?_
  refine g_nil ?_
  refine gk_then (hK3 _ _ ?_)
  refine gc_cond rfl (fun hc0 => ?_) (fun hc0 => ?_)
  · try simp only [decide_eq_true_eq, decide_eq_false_iff_not, Bool.not_eq_true', Bool.not_eq_false', Bool.not_eq_eq_eq_not, Bool.not_true, Bool.not_false, ne_eq, Decidable.not_not, Classical.not_not] at hc0
    refine gc_seq fun K4 hK4 => ?_
    refine gc_region ?_
    refine g_v (.free rfl) rfl rfl (qt_assign rfl rfl) ?_
    refine g_nil ?_
    refine gk_then (hK4 _ _ ?_)
    refine gc_ret ?_
    refine gk_then_ret ?_
    refine ret_1 rfl rfl  (fun w M => ?_)
    rw [bP_f (fun h : PreP r => (bP_f' hc0) h.1)]; exact ⟨rfl, M.1⟩
  · try simp only [decide_eq_true_eq, decide_eq_false_iff_not, Bool.not_eq_true', Bool.not_eq_false', Bool.not_eq_eq_eq_not, Bool.not_true, Bool.not_false, ne_eq, Decidable.not_not, Classical.not_not] at hc0
    refine gc_skip ?_
    refine gk_then (hK2 _ _ ?_)
    refine gc_seq fun K5 hK5 => ?_
    refine gc_seq fun K6 hK6 => ?_
    have hsq : SquareP r 2 := bP_t' hc0
    refine gc_region ?_
    refine g_v (.free rfl) rfl rfl (qt_move rfl rfl) ?_
    refine g_v (.free rfl) rfl rfl (qt_len rfl rfl ulE2 (fun w M => lenV_rd2 hu)) ?_
    refine g_v (.free rfl) rfl rfl (qt_move rfl rfl) ?_
    refine g_nil ?_
    refine gk_then (hK6 _ _ ?_)
    refine gc_block ?_
    try simp only [List.nil_append, List.cons_append, List.append_assoc, List.set_cons_succ, List.set_cons_zero]
    refine gc_loop ([(0, _), (9, _), (10, _), (11, _)] : Env) (fun s : Nat => (fun (k : Nat) => ([(12, .int .i64 (k : Int))] : Env)) s) (fun s : Nat => (fun (k : Nat) => ([] : List (Nat × Itm))) s) (fun s : Nat => (fun (k : Nat) => k ≤ r.length ∧ ∀ i : Nat, i < k → PreRow r i) s) (fun s : Nat => (fun (k : Nat) => r.length - k) s) (0) (sub_cons rfl (sub_cons rfl (sub_cons rfl (sub_cons rfl (sub_cons rfl sub_nil))))) rfl ⟨Nat.zero_le _, fun f hf => absurd hf (by omega)⟩ ?_
    rintro k hinv KL7 hKL7
    simp only [updL, List.foldl_cons, List.foldl_nil, List.set_cons_succ, List.set_cons_zero, List.cons_append, List.nil_append] at hinv hKL7 ⊢
    obtain ⟨hk, hall⟩ := hinv
    refine gc_seq fun K8 hK8 => ?_
    refine gc_region ?_
    refine g_v (.free rfl) rfl rfl (qt_lss rfl rfl rfl) ?_
    refine g_nil ?_
    refine gk_then (hK8 _ _ ?_)
    refine gc_seq fun K9 hK9 => ?_
    refine gc_cond rfl (fun hc1 => ?_) (fun hc1 => ?_)
    · try simp only [decide_eq_true_eq, decide_eq_false_iff_not, Bool.not_eq_true', Bool.not_eq_false', Bool.not_eq_eq_eq_not, Bool.not_true, Bool.not_false, ne_eq, Decidable.not_not, Classical.not_not] at hc1
      refine gc_skip ?_
      refine gk_then (hK9 _ _ ?_)
      refine gc_seq fun K10 hK10 => ?_
      refine gc_block ?_
      refine gc_seq fun K11 hK11 => ?_
      refine gc_region ?_
      refine g_v (.free rfl) rfl rfl (qt_move rfl rfl) ?_
      refine g_v (.free rfl) rfl rfl (qt_index rfl rfl rfl ulE2 szE2 (fun w M => lenA_rd2 hu) (by omega) (by omega)) ?_
      refine g_load2 (.free rfl) rfl rfl rfl rfl Tryz.underlying22 rfl hu (by omega) (by omega) ?_
      intro ra12 rc12 hr12
      refine g_v (.free rfl) rfl rfl (qt_assign rfl rfl) ?_
      refine g_v (.free rfl) rfl rfl (qt_assign rfl rfl) ?_
      refine g_nil ?_
      refine gk_then (hK11 _ _ ?_)
      refine gc_seq fun K13 hK13 => ?_
      refine gc_seq fun K14 hK14 => ?_
      have hq1 := (hsq k (by omega)).1
      refine gc_region ?_
      refine g_v (.free rfl) rfl rfl (qt_move rfl rfl) ?_
      refine g_v (.free rfl) rfl rfl (qt_move rfl rfl) ?_
      refine g_v (.free rfl) rfl rfl (qt_index rfl rfl rfl ulE1 szE1 (fun w M => lenA_rd hr12) (by omega) (by omega)) ?_
      refine g_v (.free rfl) rfl rfl (qt_load1 rfl rfl Tryz.underlying2 rfl (fun w M => mem_rd M hr12) (by omega) (by omega)) ?_
      refine g_v (.free rfl) rfl rfl (qt_neq rfl rfl rfl) ?_
      refine g_nil ?_
      refine gk_then (hK14 _ _ ?_)
      refine gc_cond rfl (fun hc2 => ?_) (fun hc2 => ?_)
      · try simp only [decide_eq_true_eq, decide_eq_false_iff_not, Bool.not_eq_true', Bool.not_eq_false', Bool.not_eq_eq_eq_not, Bool.not_true, Bool.not_false, ne_eq, Decidable.not_not, Classical.not_not] at hc2
        refine gc_seq fun K15 hK15 => ?_
        refine gc_region ?_
        refine g_v (.free rfl) rfl rfl (qt_assign rfl rfl) ?_
        refine g_nil ?_
        refine gk_then (hK15 _ _ ?_)
        refine gc_ret ?_
        refine gk_then_ret ?_
        refine gk_block_ret ?_
        refine gk_then_ret ?_
        refine gk_then_ret ?_
        refine gk_block_ret ?_
        refine gk_then_ret ?_
        refine ret_1 rfl rfl  (fun w M => ?_)
        rw [bP_f (fun h : PreP r => hc2 (h.2 k (by omega)).1)]; exact ⟨rfl, M.1⟩
      · try simp only [decide_eq_true_eq, decide_eq_false_iff_not, Bool.not_eq_true', Bool.not_eq_false', Bool.not_eq_eq_eq_not, Bool.not_true, Bool.not_false, ne_eq, Decidable.not_not, Classical.not_not] at hc2
        refine gc_skip ?_
        refine gk_then (hK13 _ _ ?_)
        refine gc_seq fun K16 hK16 => ?_
        refine gc_region ?_
        refine g_v (.free rfl) rfl rfl (qt_move rfl rfl) ?_
        refine g_v (.free rfl) rfl rfl (qt_len rfl rfl ulE1 (fun w M => lenV_rd hr12)) ?_
        refine g_v (.free rfl) rfl rfl (qt_move rfl rfl) ?_
        refine g_nil ?_
        refine gk_then (hK16 _ _ ?_)
        refine gc_block ?_
        try simp only [List.nil_append, List.cons_append, List.append_assoc, List.set_cons_succ, List.set_cons_zero]
        refine gc_loop ([(0, _), (3, _), (4, _), (9, _), (10, _), (11, _), (12, _), (13, _), (21, _), (22, _), (23, _)] : Env) (fun s : Nat => (fun (l : Nat) => ([(24, .int .i64 (l : Int))] : Env)) s) (fun s : Nat => (fun (l : Nat) => ([] : List (Nat × Itm))) s) (fun s : Nat => (fun (l : Nat) => l ≤ r.length ∧ ∀ j : Nat, j < l → at0 (row2 r (k : Int)) (j : Int) = 1 → incl r k j) s) (fun s : Nat => (fun (l : Nat) => r.length - l) s) (0) (sub_cons rfl (sub_cons rfl (sub_cons rfl (sub_cons rfl (sub_cons rfl (sub_cons rfl (sub_cons rfl (sub_cons rfl (sub_cons rfl (sub_cons rfl (sub_cons rfl (sub_cons rfl sub_nil)))))))))))) rfl ⟨Nat.zero_le _, fun f hf => absurd hf (by omega)⟩ ?_
        rintro l hinv KL17 hKL17
        simp only [updL, List.foldl_cons, List.foldl_nil, List.set_cons_succ, List.set_cons_zero, List.cons_append, List.nil_append] at hinv hKL17 ⊢
        obtain ⟨hl, hin⟩ := hinv
        refine gc_seq fun K18 hK18 => ?_
        refine gc_region ?_
        refine g_v (.free rfl) rfl rfl (qt_lss rfl rfl rfl) ?_
        refine g_nil ?_
        refine gk_then (hK18 _ _ ?_)
        refine gc_seq fun K19 hK19 => ?_
        refine gc_cond rfl (fun hc3 => ?_) (fun hc3 => ?_)
        · try simp only [decide_eq_true_eq, decide_eq_false_iff_not, Bool.not_eq_true', Bool.not_eq_false', Bool.not_eq_eq_eq_not, Bool.not_true, Bool.not_false, ne_eq, Decidable.not_not, Classical.not_not] at hc3
          refine gc_skip ?_
          refine gk_then (hK19 _ _ ?_)
          refine gc_seq fun K20 hK20 => ?_
          refine gc_block ?_
          refine gc_seq fun K21 hK21 => ?_
          refine gc_region ?_
          refine g_v (.free rfl) rfl rfl (qt_move rfl rfl) ?_
          refine g_v (.free rfl) rfl rfl (qt_index rfl rfl rfl ulE1 szE1 (fun w M => lenA_rd hr12) (by omega) (by omega)) ?_
          refine g_v (.free rfl) rfl rfl (qt_load1 rfl rfl Tryz.underlying2 rfl (fun w M => mem_rd M hr12) (by omega) (by omega)) ?_
          refine g_v (.free rfl) rfl rfl (qt_assign rfl rfl) ?_
          refine g_v (.free rfl) rfl rfl (qt_assign rfl rfl) ?_
          refine g_nil ?_
          refine gk_then (hK21 _ _ ?_)
          refine gc_seq fun K22 hK22 => ?_
          have hq2 := (hsq l (by omega)).1
          refine gc_region ?_
          refine g_v (.free rfl) rfl rfl (qt_move rfl rfl) ?_
          refine g_v (.free rfl) rfl rfl (qt_eql rfl rfl rfl) ?_
          refine g_splitv (.free rfl) rfl rfl (qt_move rfl rfl) (fun hs11_2 => ?_) (fun hs11_2 => ?_)
          · try simp only [decide_eq_true_eq, decide_eq_false_iff_not, Bool.not_eq_true', Bool.not_eq_false', Bool.not_eq_eq_eq_not, Bool.not_true, Bool.not_false, ne_eq, Decidable.not_not, Classical.not_not] at hs11_2
            refine g_v (.held _ _ _ rfl rfl rfl) rfl rfl (qt_move rfl rfl) ?_
            refine g_v (.held _ _ _ rfl rfl rfl) rfl rfl (qt_move rfl rfl) ?_
            refine g_v (.held _ _ _ rfl rfl rfl) rfl rfl (qt_move rfl rfl) ?_
            refine g_v (.held _ _ _ rfl rfl rfl) rfl rfl (qt_index rfl rfl rfl ulE2 szE2 (fun w M => lenA_rd2 hu) (by omega) (by omega)) ?_
            refine g_load2 (.held _ _ _ rfl rfl rfl) rfl rfl rfl rfl Tryz.underlying22 rfl hu (by omega) (by omega) ?_
            intro ra23 rc23 hr23
            refine g_q (.held _ _ _ rfl rfl rfl) rfl rfl (qt_call rfl Tryz.func177 rfl (by decide) rfl (fun w M => includes_any w _ _ _ _ (mem_rd M hr12) (mem_rd M hr23) (by omega))) ?_
            refine g_v (.held _ _ _ rfl rfl rfl) rfl rfl (qt_not rfl rfl) ?_
            refine g_v (.free rfl) rfl rfl (qt_pick_t rfl rfl rfl) ?_
            refine g_nil ?_
            refine gk_then (hK22 _ _ ?_)
            refine gc_cond rfl (fun hc4 => ?_) (fun hc4 => ?_)
            · try simp only [decide_eq_true_eq, decide_eq_false_iff_not, Bool.not_eq_true', Bool.not_eq_false', Bool.not_eq_eq_eq_not, Bool.not_true, Bool.not_false, ne_eq, Decidable.not_not, Classical.not_not] at hc4
              refine gc_seq fun K24 hK24 => ?_
              refine gc_region ?_
              refine g_v (.free rfl) rfl rfl (qt_assign rfl rfl) ?_
              refine g_nil ?_
              refine gk_then (hK24 _ _ ?_)
              refine gc_ret ?_
              refine gk_block_ret ?_
              refine gk_then_ret ?_
              refine gk_then_ret ?_
              refine gk_block_ret ?_
              refine gk_block_ret ?_
              refine gk_then_ret ?_
              refine gk_then_ret ?_
              refine gk_block_ret ?_
              refine gk_then_ret ?_
              refine ret_1 rfl rfl  (fun w M => ?_)
              rw [bP_f (fun h : PreP r => incl_not hsq (by omega) (by omega) hs11_2 (fun hi => bP_f' hc4 fun m hm => hi m (by omega)) (h.2 k (by omega)))]; exact ⟨rfl, M.1⟩
            · try simp only [decide_eq_true_eq, decide_eq_false_iff_not, Bool.not_eq_true', Bool.not_eq_false', Bool.not_eq_eq_eq_not, Bool.not_true, Bool.not_false, ne_eq, Decidable.not_not, Classical.not_not] at hc4
              refine gc_skip ?_
              refine gk_block ?_
              refine gk_then (hK20 _ _ ?_)
              refine gc_region ?_
              refine g_v (.free rfl) rfl rfl (qt_add rfl rfl rfl (by omega)) ?_
              refine g_v (.free rfl) rfl rfl (qt_move rfl rfl) ?_
              refine g_nil ?_
              refine gk_then (gk_take 0 ?_)
              refine gk_sub ?hs_25 (hKL17 (l + 1) ?hi_25 ?hm_25)
              case hs_25 => exact (sub_cons rfl (sub_cons rfl (sub_cons rfl (sub_cons rfl (sub_cons rfl (sub_cons rfl (sub_cons rfl (sub_cons rfl (sub_cons rfl (sub_cons rfl (sub_cons rfl (sub_cons rfl sub_nil))))))))))))
              case hi_25 => exact ⟨by omega, all_next hin fun _ m hm => bP_t' hc4 m (by omega)⟩
              case hm_25 => omega
          · try simp only [decide_eq_true_eq, decide_eq_false_iff_not, Bool.not_eq_true', Bool.not_eq_false', Bool.not_eq_eq_eq_not, Bool.not_true, Bool.not_false, ne_eq, Decidable.not_not, Classical.not_not] at hs11_2
            refine g_skip (.not _ _ _ _ rfl rfl rfl rfl) rfl rfl ?_
            refine g_skip (.not _ _ _ _ rfl rfl rfl rfl) rfl rfl ?_
            refine g_skip (.not _ _ _ _ rfl rfl rfl rfl) rfl rfl ?_
            refine g_skip (.not _ _ _ _ rfl rfl rfl rfl) rfl rfl ?_
            refine g_skip (.not _ _ _ _ rfl rfl rfl rfl) rfl rfl ?_
            refine g_skip (.not _ _ _ _ rfl rfl rfl rfl) rfl rfl ?_
            refine g_skip (.not _ _ _ _ rfl rfl rfl rfl) rfl rfl ?_
            refine g_v (.free rfl) rfl rfl (qt_pick_f rfl rfl rfl) ?_
            refine g_nil ?_
            refine gk_then (hK22 _ _ ?_)
            refine gc_cond_f rfl ?_
            refine gc_skip ?_
            refine gk_block ?_
            refine gk_then (hK20 _ _ ?_)
            refine gc_region ?_
            refine g_v (.free rfl) rfl rfl (qt_add rfl rfl rfl (by omega)) ?_
            refine g_v (.free rfl) rfl rfl (qt_move rfl rfl) ?_
            refine g_nil ?_
            refine gk_then (gk_take 0 ?_)
            refine gk_sub ?hs_26 (hKL17 (l + 1) ?hi_26 ?hm_26)
            case hs_26 => exact (sub_cons rfl (sub_cons rfl (sub_cons rfl (sub_cons rfl (sub_cons rfl (sub_cons rfl (sub_cons rfl (sub_cons rfl (sub_cons rfl (sub_cons rfl (sub_cons rfl (sub_cons rfl sub_nil))))))))))))
            case hi_26 => exact ⟨by omega, all_next hin fun h => absurd h hs11_2⟩
            case hm_26 => omega
        · try simp only [decide_eq_true_eq, decide_eq_false_iff_not, Bool.not_eq_true', Bool.not_eq_false', Bool.not_eq_eq_eq_not, Bool.not_true, Bool.not_false, ne_eq, Decidable.not_not, Classical.not_not] at hc3
          refine gc_exit ?_
          refine gk_then_exit ?_
          refine gk_then_exit ?_
          refine gk_block_hit ?_
          refine gk_block ?_
          refine gk_then (hK10 _ _ ?_)
          refine gc_region ?_
          refine g_v (.free rfl) rfl rfl (qt_add rfl rfl rfl (by omega)) ?_
          refine g_v (.free rfl) rfl rfl (qt_move rfl rfl) ?_
          refine g_nil ?_
          refine gk_then (gk_take 0 ?_)
          refine gk_sub ?hs_27 (hKL7 (k + 1) ?hi_27 ?hm_27)
          case hs_27 => exact (sub_cons rfl (sub_cons rfl (sub_cons rfl (sub_cons rfl (sub_cons rfl sub_nil)))))
          case hi_27 => exact ⟨by omega, all_next hall (incl_row hsq (by omega) hc2 fun j hj => hin j (by omega))⟩
          case hm_27 => omega
    · try simp only [decide_eq_true_eq, decide_eq_false_iff_not, Bool.not_eq_true', Bool.not_eq_false', Bool.not_eq_eq_eq_not, Bool.not_true, Bool.not_false, ne_eq, Decidable.not_not, Classical.not_not] at hc1
      refine gc_exit ?_
      refine gk_then_exit ?_
      refine gk_then_exit ?_
      refine gk_block_hit ?_
      refine gk_then (hK5 _ _ ?_)
      refine gc_seq fun K28 hK28 => ?_
      refine gc_region ?_
      refine g_v (.free rfl) rfl rfl (qt_assign rfl rfl) ?_
      refine g_nil ?_
      refine gk_then (hK28 _ _ ?_)
      refine gc_ret ?_
      refine ret_1 rfl rfl  (fun w M => ?_)
      obtain rfl : k = r.length := by omega
      rw [bP_t (show PreP r from ⟨hsq, hall⟩)]; exact ⟨rfl, M.1⟩
set_option maxHeartbeats 1000000 in
set_option maxRecDepth 100000 in
theorem isObCount_any (w : World) (n : Int) :
    Calls Tryz.prog 151 #[.int .i64 n] w (RetB w (decide (0 ≤ n ∧ n ≤ 8))) := by
  go_enter Tryz.func151, Tryz.ntmps151
  refine gc_enter (N := 9) rfl (look_cons (k := 0) rfl (look_nil _)) ?_
  refine gc_seq fun K1 hK1 => ?_
  refine gc_region ?_
  refine g_v (.free rfl) rfl rfl (qt_assign rfl rfl) ?_
  refine g_nil ?_
  refine gk_then (hK1 _ _ ?_)
  refine gc_seq fun K2 hK2 => ?_
  refine gc_region ?_
  refine g_v (.free rfl) rfl rfl (qt_move rfl rfl) ?_
  refine g_v (.free rfl) rfl rfl (qt_leq rfl rfl rfl) ?_
  refine g_splitv (.free rfl) rfl rfl (qt_move rfl rfl) (fun hs1_2 => ?_) (fun hs1_2 => ?_)
  · try simp only [decide_eq_true_eq, decide_eq_false_iff_not, Bool.not_eq_true', Bool.not_eq_false', Bool.not_eq_eq_eq_not, Bool.not_true, Bool.not_false, ne_eq, Decidable.not_not, Classical.not_not] at hs1_2
    refine g_v (.held _ _ _ rfl rfl rfl) rfl rfl (qt_move rfl rfl) ?_
    refine g_v (.held _ _ _ rfl rfl rfl) rfl rfl (qt_leq rfl rfl rfl) ?_
    refine g_v (.free rfl) rfl rfl (qt_pick_t rfl rfl rfl) ?_
    refine g_v (.free rfl) rfl rfl (qt_assign rfl rfl) ?_
    refine g_nil ?_
    refine gk_then (hK2 _ _ ?_)
    refine gc_ret ?_
    refine ret_1 rfl rfl  (fun w M => ?_)
    rw [show decide (0 ≤ n ∧ n ≤ 8) = decide (n ≤ 8) from decide_eq_decide.2 ⟨fun h => h.2, fun h => ⟨by omega, h⟩⟩]; exact ⟨rfl, M.1⟩
  · try simp only [decide_eq_true_eq, decide_eq_false_iff_not, Bool.not_eq_true', Bool.not_eq_false', Bool.not_eq_eq_eq_not, Bool.not_true, Bool.not_false, ne_eq, Decidable.not_not, Classical.not_not] at hs1_2
    refine g_skip (.not _ _ _ _ rfl rfl rfl rfl) rfl rfl ?_
    refine g_skip (.not _ _ _ _ rfl rfl rfl rfl) rfl rfl ?_
    refine g_v (.free rfl) rfl rfl (qt_pick_f rfl rfl rfl) ?_
    refine g_v (.free rfl) rfl rfl (qt_assign rfl rfl) ?_
    refine g_nil ?_
    refine gk_then (hK2 _ _ ?_)
    refine gc_ret ?_
    refine ret_1 rfl rfl  (fun w M => ?_)
    rw [decide_eq_false (show ¬ (0 ≤ n ∧ n ≤ 8) by omega)]; exact ⟨rfl, M.1⟩
set_option maxHeartbeats 1000000 in
set_option maxRecDepth 100000 in
theorem preC1_any (w : World) (x : Int) :
    Calls Tryz.prog 167 #[.int .i64 x] w (RetV w (.bool true)) := by
  go_enter Tryz.func167, Tryz.ntmps167
  refine gc_enter (N := 3) rfl (look_cons (k := 0) rfl (look_nil _)) ?_
  refine gc_seq fun K1 hK1 => ?_
  refine gc_region ?_
  refine g_v (.free rfl) rfl rfl (qt_assign rfl rfl) ?_
  refine g_nil ?_
  refine gk_then (hK1 _ _ ?_)
  refine gc_seq fun K2 hK2 => ?_
  refine gc_region ?_
  refine g_v (.free rfl) rfl rfl (qt_assign rfl rfl) ?_
  refine g_nil ?_
  refine gk_then (hK2 _ _ ?_)
  refine gc_ret ?_
  refine ret_1 rfl rfl  (fun w M => ?_)
  exact ⟨rfl, M.1⟩
set_option maxHeartbeats 1000000 in
set_option maxRecDepth 100000 in
theorem preC2_any (w : World) (f g : Bool) :
    Calls Tryz.prog 168 #[.bool f, .bool g] w (RetV w (.bool (f && g))) := by
  go_enter Tryz.func168, Tryz.ntmps168
  refine gc_enter (N := 9) rfl (look_cons (k := 0) rfl (look_cons (k := 1) rfl (look_nil _))) ?_
  refine gc_seq fun K1 hK1 => ?_
  refine gc_region ?_
  refine g_v (.free rfl) rfl rfl (qt_assign rfl rfl) ?_
  refine g_nil ?_
  refine gk_then (hK1 _ _ ?_)
  refine gc_seq fun K2 hK2 => ?_
  refine gc_region ?_
  refine g_v (.free rfl) rfl rfl (qt_move rfl rfl) ?_
  refine g_splitv (.free rfl) rfl rfl (qt_move rfl rfl) (fun hs1_1 => ?_) (fun hs1_1 => ?_)
  · try simp only [decide_eq_true_eq, decide_eq_false_iff_not, Bool.not_eq_true', Bool.not_eq_false', Bool.not_eq_eq_eq_not, Bool.not_true, Bool.not_false, ne_eq, Decidable.not_not, Classical.not_not] at hs1_1
    refine g_v (.held _ _ _ rfl rfl rfl) rfl rfl (qt_move rfl rfl) ?_
    refine g_v (.free rfl) rfl rfl (qt_pick_t rfl rfl rfl) ?_
    refine g_v (.free rfl) rfl rfl (qt_assign rfl rfl) ?_
    refine g_nil ?_
    refine gk_then (hK2 _ _ ?_)
    refine gc_ret ?_
    refine ret_1 rfl rfl  (fun w M => ?_)
    subst hs1_1; exact ⟨rfl, M.1⟩
  · try simp only [decide_eq_true_eq, decide_eq_false_iff_not, Bool.not_eq_true', Bool.not_eq_false', Bool.not_eq_eq_eq_not, Bool.not_true, Bool.not_false, ne_eq, Decidable.not_not, Classical.not_not] at hs1_1
    refine g_skip (.not _ _ _ _ rfl rfl rfl rfl) rfl rfl ?_
    refine g_v (.free rfl) rfl rfl (qt_pick_f rfl rfl rfl) ?_
    refine g_v (.free rfl) rfl rfl (qt_assign rfl rfl) ?_
    refine g_nil ?_
    refine gk_then (hK2 _ _ ?_)
    refine gc_ret ?_
    refine ret_1 rfl rfl  (fun w M => ?_)
    subst hs1_1; exact ⟨rfl, M.1⟩
end Go.Proofs.YtpcabkdkdnchaaaGreat
set_option linter.unusedSimpArgs false
set_option linter.unusedVariables false
set_option linter.unusedSectionVars false
namespace Go.Proofs.YtpcabkdkdnchaaaGreat
open Go.RowKit
theorem peL_nodup (r : List (List Int)) : ∀ i k, (peL r i k).Nodup := by
  have step : ∀ i, (peL r i 0).Nodup → ∀ k, (peL r i k).Nodup := by
    intro i h0 k
    induction k with
    | zero => exact h0
    | succ k ih =>
      by_cases h : at0 (row2 r (i : Int)) (k : Int) = 1
      · rw [← peL_t h]
        refine List.nodup_append.2 ⟨ih, by simp, fun x hx y hy he => ?_⟩
        simp only [List.mem_singleton] at hy
        subst hy; subst he
        obtain ⟨a, b, he, _, hc⟩ := peL_in hx
        simp only [Prod.mk.injEq] at he
        omega
      · rw [← peL_f h]; exact ih
  intro i
  induction i with
  | zero => exact step 0 (by simp [peL, peR])
  | succ i ih => exact step (i + 1) (by rw [← peL_row]; exact ih r.length)
theorem peL_pre1 (r : List (List Int)) (i k m : Nat) : peL r i k <+: peL r i (k + m) := by
  induction m with
  | zero => exact List.prefix_refl _
  | succ m ih =>
    refine ih.trans ?_
    by_cases h : at0 (row2 r (i : Int)) ((k + m : Nat) : Int) = 1
    · rw [← Nat.add_assoc, ← peL_t h]; exact List.prefix_append _ _
    · rw [← Nat.add_assoc, ← peL_f h]; exact List.prefix_refl _
theorem peL_pre2 (r : List (List Int)) (i m : Nat) : peL r i 0 <+: peL r (i + m) 0 := by
  induction m with
  | zero => exact List.prefix_refl _
  | succ m ih =>
    have h := peL_pre1 r (i + m) 0 r.length
    rw [Nat.zero_add, peL_row] at h
    exact ih.trans h
theorem peL_pre {r : List (List Int)} {i k : Nat} (hi : i < r.length) (hk : k ≤ r.length) : peL r i k <+: peL r r.length 0 := by
  have h1 := peL_pre1 r i k (r.length - k)
  rw [show k + (r.length - k) = r.length from by omega, peL_row] at h1
  have h2 := peL_pre2 r (i + 1) (r.length - (i + 1))
  rw [show i + 1 + (r.length - (i + 1)) = r.length from by omega] at h2
  exact h1.trans h2
theorem peL_pos {r : List (List Int)} {i j : Nat} (hi : i < r.length) (hj : j < r.length) (h : at0 (row2 r (i : Int)) (j : Int) = 1) : posE (peL r r.length 0) ((i : Int), (j : Int), true) = ((fsL r i j).length : Int) := by
  have hp := peL_pre (r := r) (i := i) (k := j + 1) hi (by omega)
  rw [← peL_t h] at hp
  obtain ⟨rest, he⟩ := hp
  have hlen : (peL r i j).length < (peL r r.length 0).length := by rw [← he]; simp
  rw [fsL_len]
  refine posE_at (peL_nodup r _ _) hlen ?_
  rw [atE_eq hlen]
  simp [← he]
theorem pre_s {r : List (List Int)} {f : Nat} (h : f < (peL r r.length 0).length) : at0 (psF r) (f : Int) = (atE (peL r r.length 0) (f : Int)).1 := by
  rw [atE_eq h, at0_nat]; simp [psF, fsL, List.getD_eq_getElem?_getD, List.getElem?_eq_getElem h]
theorem pre_t' {r : List (List Int)} {f : Nat} (h : f < (peL r r.length 0).length) : at0 (psT r) (f : Int) = (atE (peL r r.length 0) (f : Int)).2.1 := by
  rw [atE_eq h, at0_nat]; simp [psT, tsL, List.getD_eq_getElem?_getD, List.getElem?_eq_getElem h]
theorem pre_build {r : List (List Int)} (hP : PreP r) : buildE (r.length : Int) (peL r r.length 0) (fun _ => true) (fun a b => a && b) = posetC r := by
  have hl : (psF r).length = (peL r r.length 0).length := fsL_len r r.length 0
  have hl2 : (psT r).length = (peL r r.length 0).length := (tsL_len r r.length 0).trans hl
  have e1 : psF r = tabTo (fun i => (atE (peL r r.length 0) (i : Int)).1) (peL r r.length 0).length := tabTo_ext hl fun j hj => pre_s hj
  have e2 : psT r = tabTo (fun i => (atE (peL r r.length 0) (i : Int)).2.1) (peL r r.length 0).length := tabTo_ext hl2 fun j hj => pre_t' hj
  have e3 : tabTo (fun x => ((fsL r x x).length : Int)) r.length = tabTo (fun x => posE (peL r r.length 0) ((x : Int), (x : Int), true)) r.length := tabTo_congr fun x hx => (peL_pos hx hx (hP.2 x hx).1).symm
  have e4 : rowsTo (fun f => tabTo (fun g => psM r f g) (psF r).length) (psF r).length = rowsTo (fun i => rowE (peL r r.length 0) (fun a b => a && b) (atE (peL r r.length 0) (i : Int))) (peL r r.length 0).length := by
    rw [hl]
    refine rowsTo_congr fun f hf => tabTo_congr fun g hg => ?_
    obtain ⟨a, b, he, hr, hc⟩ := peL_in (atE_mem hf)
    obtain ⟨a', b', he', hr', hc'⟩ := peL_in (atE_mem hg)
    have h1 := pre_s hf; have h2 := pre_t' hf; have h3 := pre_s hg; have h4 := pre_t' hg
    rw [he] at h1 h2; rw [he'] at h3 h4
    simp only at h1 h2 h3 h4
    unfold cellE
    rw [he, he']
    simp only [Bool.and_true]
    by_cases hb : b = a'
    · subst hb
      rw [psM_t (by rw [h2, h3]), h1, h4, if_pos rfl]
      have ha : a < r.length := by omega
      have hb' : b < r.length := by omega
      have hb2 : b' < r.length := by omega
      rw [peL_pos ha hb2 ((hP.2 a ha).2 b hb' b' hb2 hr hr')]
      simp
    · rw [psM_f (by rw [h2, h3]; omega), if_neg (by omega)]
  unfold buildE posetC
  rw [e3, e4, ← e1, ← e2]
  simp only [Int.toNat_natCast]
theorem pre_made {r : List (List Int)} (h : bP (PreP r) = true) (hn : r.length ≤ 8) : madeE (r.length : Int) (peL r r.length 0) (fun _ => true) (fun a b => a && b) = (fPreorderCategory r).1 ∧ madeEc (r.length : Int) (peL r r.length 0) = (fPreorderCategory r).2 := by
  have hl : (psF r).length = (peL r r.length 0).length := fsL_len r r.length 0
  by_cases hf : FitP (posetC r)
  · have h40 : (psF r).length ≤ 40 := hf.2
    have hm := madeE_t (n := (r.length : Int)) (es := peL r r.length 0) (u := fun _ => true) (th := fun a b => a && b) (by omega) (by omega)
    rw [pre_t h hn hf, hm.1, hm.2, pre_build (bP_t' h)]; exact ⟨rfl, rfl⟩
  · have h40 : ¬ ((r.length : Int) ≤ 8 ∧ (peL r r.length 0).length ≤ 40) := fun h => hf ⟨h.1, by show (psF r).length ≤ 40; omega⟩
    have hm := madeE_f (n := (r.length : Int)) (es := peL r r.length 0) (u := fun _ => true) (th := fun a b => a && b) h40
    rw [pre_l h hn hf, hm.1, hm.2]; exact ⟨rfl, rfl⟩
set_option maxHeartbeats 1000000 in
set_option maxRecDepth 100000 in
theorem impl_PreorderCategory (w : World) (u : Value) (r : List (List Int)) (hu : Rd2 w u r) :
    Calls Tryz.prog 152 #[u] w (RetCI w (fPreorderCategory r).1 (fPreorderCategory r).2) := by
  obtain ⟨ua, uc, rfl⟩ := rd2_form hu
  have hul := rd2_len hu
  go_enter Tryz.func152, Tryz.ntmps152
  refine gc_enter (N := 46) rfl (look_cons (k := 0) rfl (look_nil _)) ?_
  refine gc_seq fun K1 hK1 => ?_
  refine gc_region ?_
  refine g_op (.free rfl) fun K3 hK3 => ?_
  refine go_alloc (z := (.agg #[.int .i64 0, .slice none 0 0, .slice none 0 0, .slice none 0 0, .slice none 0 0])) (cs := [.int .i64 0, .slice none 0 0, .slice none 0 0, .slice none 0 0, .slice none 0 0]) rfl rfl rfl (fun w => by kernel_rfl) rfl ?_
  intro B2
  refine hK3 _ _ ?_
  refine g_v (.free rfl) rfl rfl (qt_assign rfl rfl) ?_
  refine g_nil ?_
  refine gk_then (hK1 _ _ ?_)
  refine gc_seq fun K4 hK4 => ?_
  refine gc_seq fun K5 hK5 => ?_
  refine gc_region ?_
  refine g_v (.free rfl) rfl rfl (qt_move rfl rfl) ?_
  refine g_q (.free rfl) rfl rfl (qt_call rfl Tryz.func166 rfl (by decide) rfl (fun w M => isPreorder_any w _ _ (mem_rd2 M hu))) ?_
  refine g_v (.free rfl) rfl rfl (qt_not rfl rfl) ?_
  refine g_nil ?_
  refine gk_then (hK5 _ _ ?_)
  refine gc_cond rfl (fun hc0 => ?_) (fun hc0 => ?_)
  · try simp only [decide_eq_true_eq, decide_eq_false_iff_not, Bool.not_eq_true', Bool.not_eq_false', Bool.not_eq_eq_eq_not, Bool.not_true, Bool.not_false, ne_eq, Decidable.not_not, Classical.not_not] at hc0
    refine gc_seq fun K6 hK6 => ?_
    refine gc_region ?_
    refine g_v (.free rfl) rfl rfl (qt_build rfl rfl bt0_Category) ?_
    refine g_op (.free rfl) fun K7 hK7 => ?_
    refine go_storeS (n := 0) rfl rfl rfl rfl (by kernel_rfl) rfl rfl rfl ?_
    refine hK7 _ _ ?_
    refine g_v (.free rfl) rfl rfl (qt_assign rfl rfl) ?_
    refine g_nil ?_
    refine gk_then (hK6 _ _ ?_)
    refine gc_ret ?_
    refine gk_then_ret ?_
    refine ret_SI (n := 0) rfl rfl rfl Tryz.underlying29 rfl (by kernel_rfl) rfl (fun w M => ?_)
    rw [pre_n hc0]; exact ⟨_, rfl, ownC_zero _ _, M.1⟩
  · try simp only [decide_eq_true_eq, decide_eq_false_iff_not, Bool.not_eq_true', Bool.not_eq_false', Bool.not_eq_eq_eq_not, Bool.not_true, Bool.not_false, ne_eq, Decidable.not_not, Classical.not_not] at hc0
    refine gc_skip ?_
    refine gk_then (hK4 _ _ ?_)
    refine gc_seq fun K8 hK8 => ?_
    refine gc_region ?_
    refine g_v (.free rfl) rfl rfl (qt_move rfl rfl) ?_
    refine g_v (.free rfl) rfl rfl (qt_len rfl rfl ulE2 (fun w M => lenV_rd2 hu)) ?_
    refine g_v (.free rfl) rfl rfl (qt_assign rfl rfl) ?_
    refine g_nil ?_
    refine gk_then (hK8 _ _ ?_)
    refine gc_seq fun K9 hK9 => ?_
    refine gc_seq fun K10 hK10 => ?_
    refine gc_region ?_
    refine g_v (.free rfl) rfl rfl (qt_move rfl rfl) ?_
    refine g_q (.free rfl) rfl rfl (qt_call rfl Tryz.func151 rfl (by decide) rfl (fun w M => isObCount_any w _)) ?_
    refine g_v (.free rfl) rfl rfl (qt_not rfl rfl) ?_
    refine g_nil ?_
    refine gk_then (hK10 _ _ ?_)
    refine gc_cond rfl (fun hc1 => ?_) (fun hc1 => ?_)
    · try simp only [decide_eq_true_eq, decide_eq_false_iff_not, Bool.not_eq_true', Bool.not_eq_false', Bool.not_eq_eq_eq_not, Bool.not_true, Bool.not_false, ne_eq, Decidable.not_not, Classical.not_not] at hc1
      refine gc_seq fun K11 hK11 => ?_
      refine gc_region ?_
      refine g_v (.free rfl) rfl rfl (qt_build rfl rfl bt0_Category) ?_
      refine g_op (.free rfl) fun K12 hK12 => ?_
      refine go_storeS (n := 0) rfl rfl rfl rfl (by kernel_rfl) rfl rfl rfl ?_
      refine hK12 _ _ ?_
      refine g_v (.free rfl) rfl rfl (qt_assign rfl rfl) ?_
      refine g_nil ?_
      refine gk_then (hK11 _ _ ?_)
      refine gc_ret ?_
      refine gk_then_ret ?_
      refine ret_SI (n := 0) rfl rfl rfl Tryz.underlying29 rfl (by kernel_rfl) rfl (fun w M => ?_)
      rw [pre_r hc0 (by omega)]; exact ⟨_, rfl, ownC_zero _ _, M.1⟩
    · try simp only [decide_eq_true_eq, decide_eq_false_iff_not, Bool.not_eq_true', Bool.not_eq_false', Bool.not_eq_eq_eq_not, Bool.not_true, Bool.not_false, ne_eq, Decidable.not_not, Classical.not_not] at hc1
      refine gc_skip ?_
      refine gk_then (hK9 _ _ ?_)
      refine gc_seq fun K13 hK13 => ?_
      have hP := bP_t' hc0
      have hsq := hP.1
      have hn8 : r.length ≤ 8 := by omega
      refine gc_region ?_
      refine g_v (.free rfl) rfl rfl (qt_move rfl rfl) ?_
      refine g_v (.free rfl) rfl rfl (qt_build rfl rfl bt023_plan_bool) ?_
      refine g_op (.free rfl) fun K15 hK15 => ?_
      refine go_alloc (z := (.agg #[.int .i64 0, .slice none 0 0, .nilFunc, .nilFunc])) (cs := [.int .i64 0, .slice none 0 0, .nilFunc, .nilFunc]) rfl rfl rfl (fun w => by kernel_rfl) rfl ?_
      intro B14
      refine hK15 _ _ ?_
      refine g_op (.free rfl) fun K16 hK16 => ?_
      refine go_storeS (n := 1) rfl rfl rfl rfl (by kernel_rfl) rfl rfl rfl ?_
      refine hK16 _ _ ?_
      refine g_nil ?_
      refine gk_then (hK13 _ _ ?_)
      refine gc_seq fun K17 hK17 => ?_
      refine gc_seq fun K18 hK18 => ?_
      refine gc_region ?_
      refine g_v (.free rfl) rfl rfl (qt_move rfl rfl) ?_
      refine g_v (.free rfl) rfl rfl (qt_move rfl rfl) ?_
      refine g_nil ?_
      refine gk_then (hK18 _ _ ?_)
      refine gc_block ?_
      refine gc_nilE lab_bool ?_
      try simp only [List.nil_append, List.cons_append, List.append_assoc, List.set_cons_succ, List.set_cons_zero]
      refine gc_loop ([(0, _), (2, _), (3, _), (4, _), (5, _), (10, _), (16, _), (20, _)] : Env) (fun s : Nat × (Option Addr) × Nat => (fun (k : Nat) (a : Option Addr) (q : Nat) => ([(21, .int .i64 (k : Int))] : Env)) s.1 s.2.1 s.2.2) (fun s : Nat × (Option Addr) × Nat => (fun (k : Nat) (a : Option Addr) (q : Nat) => ([(1, bxI B14 192 [.int .i64 r.length, .slice a (peL r k 0).length q, .func (.func 167) #[] #[], .func (.func 168) #[] #[]]), (2, ownEI lab_bool (.slice a (peL r k 0).length q) (peL r k 0))] : List (Nat × Itm))) s.1 s.2.1 s.2.2) (fun s : Nat × (Option Addr) × Nat => (fun (k : Nat) (a : Option Addr) (q : Nat) => k ≤ r.length) s.1 s.2.1 s.2.2) (fun s : Nat × (Option Addr) × Nat => (fun (k : Nat) (a : Option Addr) (q : Nat) => r.length - k) s.1 s.2.1 s.2.2) (0, _, _) (sub_cons rfl (sub_cons rfl (sub_cons rfl (sub_cons rfl (sub_cons rfl (sub_cons rfl (sub_cons rfl (sub_cons rfl (sub_cons rfl sub_nil))))))))) rfl (Nat.zero_le _) ?_
      rintro ⟨k, a, q⟩ hinv KL19 hKL19
      simp only [updL, List.foldl_cons, List.foldl_nil, List.set_cons_succ, List.set_cons_zero, List.cons_append, List.nil_append] at hinv hKL19 ⊢
      have hk := hinv
      refine gc_seq fun K20 hK20 => ?_
      refine gc_region ?_
      refine g_v (.free rfl) rfl rfl (qt_lss rfl rfl rfl) ?_
      refine g_nil ?_
      refine gk_then (hK20 _ _ ?_)
      refine gc_seq fun K21 hK21 => ?_
      refine gc_cond rfl (fun hc2 => ?_) (fun hc2 => ?_)
      · try simp only [decide_eq_true_eq, decide_eq_false_iff_not, Bool.not_eq_true', Bool.not_eq_false', Bool.not_eq_eq_eq_not, Bool.not_true, Bool.not_false, ne_eq, Decidable.not_not, Classical.not_not] at hc2
        refine gc_skip ?_
        refine gk_then (hK21 _ _ ?_)
        refine gc_seq fun K22 hK22 => ?_
        refine gc_block ?_
        refine gc_seq fun K23 hK23 => ?_
        refine gc_region ?_
        refine g_v (.free rfl) rfl rfl (qt_move rfl rfl) ?_
        refine g_v (.free rfl) rfl rfl (qt_assign rfl rfl) ?_
        refine g_nil ?_
        refine gk_then (hK23 _ _ ?_)
        refine gc_seq fun K24 hK24 => ?_
        refine gc_region ?_
        refine g_v (.free rfl) rfl rfl (qt_move rfl rfl) ?_
        refine g_v (.free rfl) rfl rfl (qt_move rfl rfl) ?_
        refine g_nil ?_
        refine gk_then (hK24 _ _ ?_)
        refine gc_block ?_
        try simp only [List.nil_append, List.cons_append, List.append_assoc, List.set_cons_succ, List.set_cons_zero]
        refine gc_loop ([(0, _), (2, _), (3, _), (4, _), (5, _), (6, _), (10, _), (16, _), (20, _), (21, _), (22, _), (24, _)] : Env) (fun s : Nat × (Option Addr) × Nat => (fun (l : Nat) (a : Option Addr) (q : Nat) => ([(25, .int .i64 (l : Int))] : Env)) s.1 s.2.1 s.2.2) (fun s : Nat × (Option Addr) × Nat => (fun (l : Nat) (a : Option Addr) (q : Nat) => ([(1, bxI B14 192 [.int .i64 r.length, .slice a (peL r k l).length q, .func (.func 167) #[] #[], .func (.func 168) #[] #[]]), (2, ownEI lab_bool (.slice a (peL r k l).length q) (peL r k l))] : List (Nat × Itm))) s.1 s.2.1 s.2.2) (fun s : Nat × (Option Addr) × Nat => (fun (l : Nat) (a : Option Addr) (q : Nat) => l ≤ r.length) s.1 s.2.1 s.2.2) (fun s : Nat × (Option Addr) × Nat => (fun (l : Nat) (a : Option Addr) (q : Nat) => r.length - l) s.1 s.2.1 s.2.2) (0, _, _) (sub_cons rfl (sub_cons rfl (sub_cons rfl (sub_cons rfl (sub_cons rfl (sub_cons rfl (sub_cons rfl (sub_cons rfl (sub_cons rfl (sub_cons rfl (sub_cons rfl (sub_cons rfl (sub_cons rfl sub_nil))))))))))))) rfl (Nat.zero_le _) ?_
        rintro ⟨l, a, q⟩ hinv KL25 hKL25
        simp only [updL, List.foldl_cons, List.foldl_nil, List.set_cons_succ, List.set_cons_zero, List.cons_append, List.nil_append] at hinv hKL25 ⊢
        have hl := hinv
        refine gc_seq fun K26 hK26 => ?_
        refine gc_region ?_
        refine g_v (.free rfl) rfl rfl (qt_lss rfl rfl rfl) ?_
        refine g_nil ?_
        refine gk_then (hK26 _ _ ?_)
        refine gc_seq fun K27 hK27 => ?_
        refine gc_cond rfl (fun hc3 => ?_) (fun hc3 => ?_)
        · try simp only [decide_eq_true_eq, decide_eq_false_iff_not, Bool.not_eq_true', Bool.not_eq_false', Bool.not_eq_eq_eq_not, Bool.not_true, Bool.not_false, ne_eq, Decidable.not_not, Classical.not_not] at hc3
          refine gc_skip ?_
          refine gk_then (hK27 _ _ ?_)
          refine gc_seq fun K28 hK28 => ?_
          refine gc_block ?_
          refine gc_seq fun K29 hK29 => ?_
          refine gc_region ?_
          refine g_v (.free rfl) rfl rfl (qt_move rfl rfl) ?_
          refine g_v (.free rfl) rfl rfl (qt_assign rfl rfl) ?_
          refine g_nil ?_
          refine gk_then (hK29 _ _ ?_)
          refine gc_seq fun K30 hK30 => ?_
          have hq1 := (hsq k (by omega)).1
          have hpl := peL_len hn8 k l
          refine gc_region ?_
          refine g_v (.free rfl) rfl rfl (qt_move rfl rfl) ?_
          refine g_v (.free rfl) rfl rfl (qt_move rfl rfl) ?_
          refine g_v (.free rfl) rfl rfl (qt_index rfl rfl rfl ulE2 szE2 (fun w M => lenA_rd2 hu) (by omega) (by omega)) ?_
          refine g_load2 (.free rfl) rfl rfl rfl rfl Tryz.underlying22 rfl hu (by omega) (by omega) ?_
          intro ra31 rc31 hr31
          refine g_v (.free rfl) rfl rfl (qt_move rfl rfl) ?_
          refine g_v (.free rfl) rfl rfl (qt_index rfl rfl rfl ulE1 szE1 (fun w M => lenA_rd hr31) (by omega) (by omega)) ?_
          refine g_v (.free rfl) rfl rfl (qt_load1 rfl rfl Tryz.underlying2 rfl (fun w M => mem_rd M hr31) (by omega) (by omega)) ?_
          refine g_v (.free rfl) rfl rfl (qt_eql rfl rfl rfl) ?_
          refine g_nil ?_
          refine gk_then (hK30 _ _ ?_)
          refine gc_cond rfl (fun hc4 => ?_) (fun hc4 => ?_)
          · try simp only [decide_eq_true_eq, decide_eq_false_iff_not, Bool.not_eq_true', Bool.not_eq_false', Bool.not_eq_eq_eq_not, Bool.not_true, Bool.not_false, ne_eq, Decidable.not_not, Classical.not_not] at hc4
            refine gc_region ?_
            refine g_v (.free rfl) rfl rfl (qt_move rfl rfl) ?_
            refine g_v (.free rfl) rfl rfl (qt_move rfl rfl) ?_
            refine g_v (.free rfl) rfl rfl (qt_build rfl rfl bt_arrowEnds) ?_
            refine g_op (.free rfl) fun K33 hK33 => ?_
            refine go_two (n := 1) (m := 2) (m' := 1) (σ := Option Addr × Nat) rfl rfl rfl Tryz.func169 rfl (by decide) rfl rfl rfl (fun z => rfl) (fun R w M => add_bool _ w R _ _ _ _ _ _ _ _ _ _ (by omega) M) ?_
            intro ⟨sa32, sq32⟩
            refine hK33 _ _ ?_
            refine g_nil ?_
            refine gk_block ?_
            refine gk_then (hK28 _ _ ?_)
            refine gc_region ?_
            refine g_v (.free rfl) rfl rfl (qt_add rfl rfl rfl (by omega)) ?_
            refine g_v (.free rfl) rfl rfl (qt_move rfl rfl) ?_
            refine g_nil ?_
            simp only [peL_t hc4]
            refine gk_then (gk_take 3 ?_)
            refine gk_sub ?hs_34 (hKL25 (l + 1, _, _) ?hi_34 ?hm_34)
            case hs_34 => exact (sub_cons rfl (sub_cons rfl (sub_cons rfl (sub_cons rfl (sub_cons rfl (sub_cons rfl (sub_cons rfl (sub_cons rfl (sub_cons rfl (sub_cons rfl (sub_cons rfl (sub_cons rfl (sub_cons rfl sub_nil)))))))))))))
            case hi_34 => omega
            case hm_34 => omega
          · try simp only [decide_eq_true_eq, decide_eq_false_iff_not, Bool.not_eq_true', Bool.not_eq_false', Bool.not_eq_eq_eq_not, Bool.not_true, Bool.not_false, ne_eq, Decidable.not_not, Classical.not_not] at hc4
            refine gc_skip ?_
            refine gk_block ?_
            refine gk_then (hK28 _ _ ?_)
            refine gc_region ?_
            refine g_v (.free rfl) rfl rfl (qt_add rfl rfl rfl (by omega)) ?_
            refine g_v (.free rfl) rfl rfl (qt_move rfl rfl) ?_
            refine g_nil ?_
            rw [peL_f hc4]
            refine gk_then (gk_take 3 ?_)
            refine gk_sub ?hs_35 (hKL25 (l + 1, _, _) ?hi_35 ?hm_35)
            case hs_35 => exact (sub_cons rfl (sub_cons rfl (sub_cons rfl (sub_cons rfl (sub_cons rfl (sub_cons rfl (sub_cons rfl (sub_cons rfl (sub_cons rfl (sub_cons rfl (sub_cons rfl (sub_cons rfl (sub_cons rfl sub_nil)))))))))))))
            case hi_35 => omega
            case hm_35 => omega
        · try simp only [decide_eq_true_eq, decide_eq_false_iff_not, Bool.not_eq_true', Bool.not_eq_false', Bool.not_eq_eq_eq_not, Bool.not_true, Bool.not_false, ne_eq, Decidable.not_not, Classical.not_not] at hc3
          refine gc_exit ?_
          refine gk_then_exit ?_
          refine gk_then_exit ?_
          refine gk_block_hit ?_
          refine gk_block ?_
          refine gk_then (hK22 _ _ ?_)
          refine gc_region ?_
          refine g_v (.free rfl) rfl rfl (qt_add rfl rfl rfl (by omega)) ?_
          refine g_v (.free rfl) rfl rfl (qt_move rfl rfl) ?_
          refine g_nil ?_
          obtain rfl : l = r.length := by omega
          rw [peL_row]
          refine gk_then (gk_take 3 ?_)
          refine gk_sub ?hs_36 (hKL19 (k + 1, _, _) ?hi_36 ?hm_36)
          case hs_36 => exact (sub_cons rfl (sub_cons rfl (sub_cons rfl (sub_cons rfl (sub_cons rfl (sub_cons rfl (sub_cons rfl (sub_cons rfl (sub_cons rfl sub_nil)))))))))
          case hi_36 => omega
          case hm_36 => omega
      · try simp only [decide_eq_true_eq, decide_eq_false_iff_not, Bool.not_eq_true', Bool.not_eq_false', Bool.not_eq_eq_eq_not, Bool.not_true, Bool.not_false, ne_eq, Decidable.not_not, Classical.not_not] at hc2
        refine gc_exit ?_
        refine gk_then_exit ?_
        refine gk_then_exit ?_
        refine gk_block_hit ?_
        refine gk_then (hK17 _ _ ?_)
        refine gc_seq fun K37 hK37 => ?_
        obtain rfl : k = r.length := by omega
        refine gc_region ?_
        refine g_v (.free rfl) rfl rfl (qt_loadS (n := 1) rfl rfl Tryz.underlying192 rfl (by kernel_rfl) rfl) ?_
        refine g_op (.free rfl) fun K39 hK39 => ?_
        refine go_callCI rfl rfl rfl Tryz.func170 rfl (by decide) rfl (fun w M => build_bool w (r.length : Int) _ (peL r r.length 0) (mem_ownE (n := 2) M rfl) (peL_nodup r r.length 0) (by omega) _ ([]) (fun _ => true) (⟨_, Tryz.func167, rfl, by decide⟩) (fun w' hb x hx => preC1_any w' (x : Int)) _ ([]) (fun a b => a && b) (⟨_, Tryz.func168, rfl, by decide⟩) (fun w' hb f hf g hg _ => preC2_any w' f.2.2 g.2.2)) ?_
        intro ca38 cb38 cc38 cd38 ce38 cf38 cg38 ch38 cu38
        refine hK39 _ _ ?_
        refine g_v (.free rfl) rfl rfl (qt_extract rfl rfl rfl) ?_
        refine g_v (.free rfl) rfl rfl (qt_extract rfl rfl rfl) ?_
        refine g_op (.free rfl) fun K40 hK40 => ?_
        refine go_storeS (n := 0) rfl rfl rfl rfl (by kernel_rfl) rfl rfl rfl ?_
        refine hK40 _ _ ?_
        refine g_v (.free rfl) rfl rfl (qt_assign rfl rfl) ?_
        refine g_nil ?_
        refine gk_then (hK37 _ _ ?_)
        refine gc_ret ?_
        refine ret_SI (n := 0) rfl rfl rfl Tryz.underlying29 rfl (by kernel_rfl) rfl (fun w M => ?_)
        have hm := pre_made hc0 hn8
        exact retCI_eq hm.1 hm.2 ⟨_, rfl, ownC_star (mem_pick (n := 6) (mem_pick (n := 6) (mem_pick (n := 6) (mem_pick (n := 6) (M) rfl) rfl) rfl) rfl).2, M.1⟩
end Go.Proofs.YtpcabkdkdnchaaaGreat
set_option linter.unusedSimpArgs false
set_option linter.unusedVariables false
set_option linter.unusedSectionVars false
namespace Go.Proofs.YtpcabkdkdnchaaaGreat
open Go.RowKit
section
variable {w0 : World} {is : List Itm} {Q : Exit → Act → World → Prop} {o : Oper} {N : Frm} {e : Env} {v : Value} {K : Act → World → Prop}
theorem go_storeU {t : TypeId} {x y : Operand} {n : Nat} {us : List Value} {rows : List (List Int)} {i j z : Int} (hd : o.dst = none) (hop : o.op = .store t x y) (hx : evo e x = some (eltP (us.getD i.toNat undef) j)) (hy : evo e y = some (.int .i64 z))
    (hs : (Tryz.prog.info? t).map (·.size) = some 1) (hi : is[n]? = some (own2U v us rows)) (i0 : 0 ≤ i) (i1 : i < rows.length) (j0 : 0 ≤ j) (j1 : j < (row2 rows i).length)
    (hk : GK w0 (is.set n (own2U v us (rows.set i.toNat ((row2 rows i).set j.toNat z)))) N K e) : GO w0 is N o e Q K := by
  intro w ac M F
  obtain ⟨S, hS, hp, hset⟩ := mem_set M hi
  have hp' : Own2U v us rows w S := hp
  obtain ⟨h1, h2, h3, h4, h5, h6⟩ := hp'
  have hlt : i.toNat < rows.length := by omega
  have hrow := h4 i.toNat hlt
  have hj : j.toNat < (rows.getD i.toNat []).length := by have : (row2 rows i).length = (rows.getD i.toNat []).length := rfl; omega
  obtain ⟨a, cap, hu, hf⟩ := sl_form hrow.1
  obtain ⟨g, rfl⟩ := hf j.toNat hj
  have hsl := hrow.1
  rw [hu] at hsl
  have hcell := sl_cell hsl hj
  have hfz := sl_frozen hsl j.toNat
  have hst := sl_set hsl j.toNat z
  have hgS : S g := hrow.2.2 g (by rw [hu]; rfl)
  have hne : ∀ u : Value, (∀ q, u.ownBlock = some q → q ≠ g) → u.ownBlock = none ∨ u.ownBlock ≠ some g := fun u hq => by
    cases hb : u.ownBlock with
    | none => exact .inl rfl
    | some q => exact .inr fun e => hq q hb (by simpa using e)
  refine go_skip (w' := w.setCell ⟨g, j.toNat, none⟩ (.int .i64 z)) hd F ?_ fun ac F => hk _ ac (hset _ _ ⟨hst.2.os, hst.2.tape, hst.2.output, hst.2.size, fun q hq hs => hst.2.block q hq fun e => hs (by rw [Option.some.inj e]; exact hgS)⟩ ⟨by simpa using h1, by simpa using h2, ?_, fun m hm => ?_, fun m m' hm hm' => h5 m m' hm (by simpa using hm'), fun q hq => .inl (h6 q hq)⟩) F
  · intro ρ F; have hx := F _ _ hx; have hy := F _ _ hy
    have he : eltP (us.getD i.toNat undef) j = .pointer (some ⟨g, j.toNat, none⟩) := by rw [hu]; simp [eltP]
    rw [he] at hx
    simp [execOp, hop, hx, hy, run_store1 hs (u := .int .i64 z) rfl rfl hcell hfz]
  · have := own_agree h3 (w' := w.setCell ⟨g, j.toNat, none⟩ (.int .i64 z)) fun q hq hv => hst.2.block q hq fun e => by
      have hqg : q = g := by have := Option.some.inj e; omega
      exact hrow.2.1 g (by rw [hu]; rfl) (by rw [hv, hqg])
    simpa using this
  · simp only [List.length_set] at hm
    rw [getD_set2 rows i.toNat _ [] m (by omega)]
    by_cases hmi : m = i.toNat
    · subst hmi
      rw [if_pos rfl, hu]
      exact ⟨hst.1, by rw [← hu]; exact hrow.2.1, fun q hq => .inl (hrow.2.2 q (by rw [hu]; exact hq))⟩
    · rw [if_neg hmi]
      refine ⟨sl_kept (h4 m hm).1 hst.2 (hne _ fun q hq e => ?_), (h4 m hm).2.1, fun q hq => .inl ((h4 m hm).2.2 q hq)⟩
      rcases Nat.lt_or_ge m i.toNat with h | h
      · exact h5 m i.toNat h hlt q hq (by rw [hu, e]; rfl)
      · exact h5 i.toNat m (by omega) hm g (by rw [hu]; rfl) (by rw [hq, e])
end
end Go.Proofs.YtpcabkdkdnchaaaGreat
