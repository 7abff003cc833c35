
/- Kinds of arrows: the model's. -/
import Derived.Test.YtloaikmiofdhnabKinM
import Derived.Test.YtloaikmiofdhnabClo
set_option linter.unusedSimpArgs false
set_option linter.unusedVariables false
set_option linter.unusedSectionVars false
namespace Go.Proofs.Ytloaikmiofdhnab
open Go.RowKit

set_option maxHeartbeats 1000000 in
set_option maxRecDepth 100000 in
theorem l05Arrow_any (w : World) (v : Value) (c : Cat) (f : Int) (h : RdC w v c) :
    Calls Try.prog 143 #[v, .int .i64 f] w (RetB w (bP (0 ≤ f ∧ f < c.s.length))) := by
  have h0 := h
  obtain ⟨va, vb, vc, vd, ve, vf, vg, vh, rfl, h1, h2, h3, h4, _⟩ := h.lists
  go_enter Try.func143, Try.ntmps143
  refine gc_enter (N := 14) rfl (look_cons (k := 0) rfl (look_cons (k := 1) rfl (look_nil _))) ?_
  refine gc_seq fun K1 hK1 => ?_
  refine gc_region ?_
  refine g_op (.free rfl) fun K3 hK3 => ?_
  refine go_box rfl rfl rfl rfl rfl ?_
  intro B2
  refine hK3 _ _ ?_
  refine g_v (.free rfl) rfl rfl (qt_assign rfl rfl) ?_
  refine g_nil ?_
  refine gk_then (hK1 _ _ ?_)
  refine gc_seq fun K4 hK4 => ?_
  refine gc_region ?_
  refine g_v (.free rfl) rfl rfl (qt_move rfl rfl) ?_
  refine g_v (.free rfl) rfl rfl (qt_geq rfl rfl rfl) ?_
  refine g_splitv (.free rfl) rfl rfl (qt_move rfl rfl) (fun hs1_2 => ?_) (fun hs1_2 => ?_)
  · try simp only [decide_eq_true_eq, decide_eq_false_iff_not, Bool.not_eq_true', Bool.not_eq_false', Bool.not_eq_eq_eq_not, Bool.not_true, Bool.not_false, ne_eq, Decidable.not_not, Classical.not_not] at hs1_2
    refine g_v (.held _ _ _ rfl rfl rfl) rfl rfl (qt_move rfl rfl) ?_
    refine g_v (.held _ _ _ rfl rfl rfl) rfl rfl (qt_field (z := 0) (off := 1) rfl rfl Try.underlying29 rfl (by kernel_rfl) rfl) ?_
    refine g_v (.held _ _ _ rfl rfl rfl) rfl rfl (qt_loadB (n := 0) rfl rfl Try.underlying22 rfl rfl rfl) ?_
    refine g_v (.held _ _ _ rfl rfl rfl) rfl rfl (qt_len rfl rfl ulE1 (fun w M => lenV_rd h1)) ?_
    refine g_v (.held _ _ _ rfl rfl rfl) rfl rfl (qt_lss rfl rfl rfl) ?_
    refine g_v (.free rfl) rfl rfl (qt_pick_t rfl rfl rfl) ?_
    refine g_v (.free rfl) rfl rfl (qt_assign rfl rfl) ?_
    refine g_nil ?_
    refine gk_then (hK4 _ _ ?_)
    refine gc_ret ?_
    refine ret_1 rfl rfl  (fun w M => ?_)
    rw [bP_dec]; exact ⟨by first | rfl | (congr 2; simp; omega), M.1⟩
  · try simp only [decide_eq_true_eq, decide_eq_false_iff_not, Bool.not_eq_true', Bool.not_eq_false', Bool.not_eq_eq_eq_not, Bool.not_true, Bool.not_false, ne_eq, Decidable.not_not, Classical.not_not] at hs1_2
    refine g_skip (.not _ _ _ _ rfl rfl rfl rfl) rfl rfl ?_
    refine g_skip (.not _ _ _ _ rfl rfl rfl rfl) rfl rfl ?_
    refine g_skip (.not _ _ _ _ rfl rfl rfl rfl) rfl rfl ?_
    refine g_skip (.not _ _ _ _ rfl rfl rfl rfl) rfl rfl ?_
    refine g_skip (.not _ _ _ _ rfl rfl rfl rfl) rfl rfl ?_
    refine g_v (.free rfl) rfl rfl (qt_pick_f rfl rfl rfl) ?_
    refine g_v (.free rfl) rfl rfl (qt_assign rfl rfl) ?_
    refine g_nil ?_
    refine gk_then (hK4 _ _ ?_)
    refine gc_ret ?_
    refine ret_1 rfl rfl  (fun w M => ?_)
    rw [bP_f (by omega)]; exact ⟨rfl, M.1⟩

set_option maxHeartbeats 1000000 in
set_option maxRecDepth 100000 in
theorem l05Code_any (w : World) (v : Value) (c : Cat) (f : Int) (h : RdC w v c) :
    Calls Try.prog 90 #[v, .int .i64 f] w (RetI w (arrErr c [f])) := by
  have h0 := h
  obtain ⟨va, vb, vc, vd, ve, vf, vg, vh, rfl, h1, h2, h3, h4, _⟩ := h.lists
  go_enter Try.func90, Try.ntmps90
  refine gc_enter (N := 14) rfl (look_cons (k := 0) rfl (look_cons (k := 1) rfl (look_nil _))) ?_
  refine gc_seq fun K1 hK1 => ?_
  refine gc_region ?_
  refine g_op (.free rfl) fun K3 hK3 => ?_
  refine go_box rfl rfl rfl rfl rfl ?_
  intro B2
  refine hK3 _ _ ?_
  refine g_v (.free rfl) rfl rfl (qt_assign rfl rfl) ?_
  refine g_nil ?_
  refine gk_then (hK1 _ _ ?_)
  refine gc_seq fun K4 hK4 => ?_
  refine gc_block ?_
  refine gc_seq fun K5 hK5 => ?_
  refine gc_region ?_
  refine g_v (.free rfl) rfl rfl (qt_loadS (n := 0) rfl rfl Try.underlying29 rfl (by kernel_rfl) rfl) ?_
  refine g_q (.free rfl) rfl rfl (qt_call rfl Try.func76 rfl (by decide) rfl (fun w M => specIs_any w _ _ (mem_rdC M h0))) ?_
  refine g_v (.free rfl) rfl rfl (qt_not rfl rfl) ?_
  refine g_v (.free rfl) rfl rfl (qt_assign rfl rfl) ?_
  refine g_nil ?_
  refine gk_then (hK5 _ _ ?_)
  refine gc_cond rfl (fun hc0 => ?_) (fun hc0 => ?_)
  · try simp only [decide_eq_true_eq, decide_eq_false_iff_not, Bool.not_eq_true', Bool.not_eq_false', Bool.not_eq_eq_eq_not, Bool.not_true, Bool.not_false, ne_eq, Decidable.not_not, Classical.not_not] at hc0
    refine gc_seq fun K6 hK6 => ?_
    refine gc_region ?_
    refine g_v (.free rfl) rfl rfl (qt_assign rfl rfl) ?_
    refine g_nil ?_
    refine gk_then (hK6 _ _ ?_)
    refine gc_ret ?_
    refine gk_block_ret ?_
    refine gk_then_ret ?_
    refine ret_1 rfl rfl  (fun w M => ?_)
    rw [arrErr_f hc0]; exact ⟨rfl, M.1⟩
  · try simp only [decide_eq_true_eq, decide_eq_false_iff_not, Bool.not_eq_true', Bool.not_eq_false', Bool.not_eq_eq_eq_not, Bool.not_true, Bool.not_false, ne_eq, Decidable.not_not, Classical.not_not] at hc0
    refine gc_seq fun K7 hK7 => ?_
    refine gc_region ?_
    refine g_v (.free rfl) rfl rfl (qt_loadS (n := 0) rfl rfl Try.underlying29 rfl (by kernel_rfl) rfl) ?_
    refine g_v (.free rfl) rfl rfl (qt_move rfl rfl) ?_
    refine g_q (.free rfl) rfl rfl (qt_call rfl Try.func143 rfl (by decide) rfl (fun w M => l05Arrow_any w _ _ _ (mem_rdC M h0))) ?_
    refine g_v (.free rfl) rfl rfl (qt_not rfl rfl) ?_
    refine g_v (.free rfl) rfl rfl (qt_assign rfl rfl) ?_
    refine g_nil ?_
    refine gk_then (hK7 _ _ ?_)
    refine gc_cond rfl (fun hc1 => ?_) (fun hc1 => ?_)
    · try simp only [decide_eq_true_eq, decide_eq_false_iff_not, Bool.not_eq_true', Bool.not_eq_false', Bool.not_eq_eq_eq_not, Bool.not_true, Bool.not_false, ne_eq, Decidable.not_not, Classical.not_not] at hc1
      refine gc_seq fun K8 hK8 => ?_
      refine gc_region ?_
      refine g_v (.free rfl) rfl rfl (qt_assign rfl rfl) ?_
      refine g_nil ?_
      refine gk_then (hK8 _ _ ?_)
      refine gc_ret ?_
      refine gk_block_ret ?_
      refine gk_then_ret ?_
      refine ret_1 rfl rfl  (fun w M => ?_)
      rw [arrErr_r hc0 (fun h => bP_f' hc1 (allP_one.1 h))]; exact ⟨rfl, M.1⟩
    · try simp only [decide_eq_true_eq, decide_eq_false_iff_not, Bool.not_eq_true', Bool.not_eq_false', Bool.not_eq_eq_eq_not, Bool.not_true, Bool.not_false, ne_eq, Decidable.not_not, Classical.not_not] at hc1
      refine gc_skip ?_
      refine gk_block ?_
      refine gk_then (hK4 _ _ ?_)
      refine gc_seq fun K9 hK9 => ?_
      refine gc_region ?_
      refine g_v (.free rfl) rfl rfl (qt_assign rfl rfl) ?_
      refine g_nil ?_
      refine gk_then (hK9 _ _ ?_)
      refine gc_ret ?_
      refine ret_1 rfl rfl  (fun w M => ?_)
      rw [arrErr_t hc0 (allP_one.2 (bP_t' hc1))]; exact ⟨rfl, M.1⟩

set_option maxHeartbeats 1000000 in
set_option maxRecDepth 100000 in
theorem has5_any (w : World) (u : Value) (xs : List Int) (x : Int) (hu : Rd w u xs) :
    Calls Try.prog 151 #[u, .int .i64 x] w (RetB w (decide (x ∈ xs))) := by
  obtain ⟨ua, uc, rfl⟩ := rd_form hu
  have hxl : xs.length ≤ 17592186044415 := by obtain ⟨_, _, _, hl, _⟩ := hu; exact hl
  go_enter Try.func151, Try.ntmps151
  refine gc_enter (N := 18) rfl (look_cons (k := 0) rfl (look_cons (k := 1) rfl (look_nil _))) ?_
  refine gc_seq fun K1 hK1 => ?_
  refine gc_region ?_
  refine g_v (.free rfl) rfl rfl (qt_assign rfl rfl) ?_
  refine g_nil ?_
  refine gk_then (hK1 _ _ ?_)
  refine gc_seq fun K2 hK2 => ?_
  refine gc_seq fun K3 hK3 => ?_
  refine gc_region ?_
  refine g_v (.free rfl) rfl rfl (qt_assign rfl rfl) ?_
  refine g_nil ?_
  refine gk_then (hK3 _ _ ?_)
  refine gc_block ?_
  try simp only [List.nil_append, List.cons_append, List.append_assoc, List.set_cons_succ, List.set_cons_zero]
  refine gc_loop ([(0, _), (1, _)] : Env) (fun s : Nat => (fun (k : Nat) => ([(5, .int .i64 (k : Int))] : Env)) s) (fun s : Nat => (fun (k : Nat) => ([] : List (Nat × Itm))) s) (fun s : Nat => (fun (k : Nat) => k ≤ xs.length ∧ ∀ j : Nat, j < k → ¬ at0 xs (j : Int) = x) s) (fun s : Nat => (fun (k : Nat) => xs.length - k) s) (0) (sub_cons rfl (sub_cons rfl (sub_cons rfl sub_nil))) rfl ⟨Nat.zero_le _, fun j hj => absurd hj (by omega)⟩ ?_
  rintro k hinv KL4 hKL4
  simp only [updL, List.foldl_cons, List.foldl_nil, List.set_cons_succ, List.set_cons_zero, List.cons_append, List.nil_append] at hinv hKL4 ⊢
  obtain ⟨hk, hno⟩ := hinv
  refine gc_seq fun K5 hK5 => ?_
  refine gc_seq fun K6 hK6 => ?_
  refine gc_region ?_
  refine g_v (.free rfl) rfl rfl (qt_move rfl rfl) ?_
  refine g_v (.free rfl) rfl rfl (qt_move rfl rfl) ?_
  refine g_v (.free rfl) rfl rfl (qt_len rfl rfl ulE1 (fun w M => lenV_rd hu)) ?_
  refine g_v (.free rfl) rfl rfl (qt_lss rfl rfl rfl) ?_
  refine g_nil ?_
  refine gk_then (hK6 _ _ ?_)
  refine gc_cond rfl (fun hc0 => ?_) (fun hc0 => ?_)
  · try simp only [decide_eq_true_eq, decide_eq_false_iff_not, Bool.not_eq_true', Bool.not_eq_false', Bool.not_eq_eq_eq_not, Bool.not_true, Bool.not_false, ne_eq, Decidable.not_not, Classical.not_not] at hc0
    refine gc_skip ?_
    refine gk_then (hK5 _ _ ?_)
    refine gc_seq fun K7 hK7 => ?_
    refine gc_block ?_
    refine gc_seq fun K8 hK8 => ?_
    refine gc_region ?_
    refine g_v (.free rfl) rfl rfl (qt_move rfl rfl) ?_
    refine g_v (.free rfl) rfl rfl (qt_move rfl rfl) ?_
    refine g_v (.free rfl) rfl rfl (qt_index rfl rfl rfl ulE1 szE1 (fun w M => lenA_rd hu) (by omega) (by omega)) ?_
    refine g_v (.free rfl) rfl rfl (qt_load1 rfl rfl Try.underlying2 rfl (fun w M => mem_rd M hu) (by omega) (by omega)) ?_
    refine g_v (.free rfl) rfl rfl (qt_move rfl rfl) ?_
    refine g_v (.free rfl) rfl rfl (qt_eql rfl rfl rfl) ?_
    refine g_nil ?_
    refine gk_then (hK8 _ _ ?_)
    refine gc_cond rfl (fun hc1 => ?_) (fun hc1 => ?_)
    · try simp only [decide_eq_true_eq, decide_eq_false_iff_not, Bool.not_eq_true', Bool.not_eq_false', Bool.not_eq_eq_eq_not, Bool.not_true, Bool.not_false, ne_eq, Decidable.not_not, Classical.not_not] at hc1
      refine gc_seq fun K9 hK9 => ?_
      refine gc_region ?_
      refine g_v (.free rfl) rfl rfl (qt_assign rfl rfl) ?_
      refine g_nil ?_
      refine gk_then (hK9 _ _ ?_)
      refine gc_ret ?_
      refine gk_block_ret ?_
      refine gk_then_ret ?_
      refine gk_then_ret ?_
      refine gk_block_ret ?_
      refine gk_then_ret ?_
      refine ret_1 rfl rfl  (fun w M => ?_)
      rw [decide_eq_true (show x ∈ xs from hc1 ▸ at0_mem (by omega))]; exact ⟨rfl, M.1⟩
    · try simp only [decide_eq_true_eq, decide_eq_false_iff_not, Bool.not_eq_true', Bool.not_eq_false', Bool.not_eq_eq_eq_not, Bool.not_true, Bool.not_false, ne_eq, Decidable.not_not, Classical.not_not] at hc1
      refine gc_skip ?_
      refine gk_block ?_
      refine gk_then (hK7 _ _ ?_)
      refine gc_region ?_
      refine g_v (.free rfl) rfl rfl (qt_move rfl rfl) ?_
      refine g_v (.free rfl) rfl rfl (qt_add rfl rfl rfl (by omega)) ?_
      refine g_v (.free rfl) rfl rfl (qt_assign rfl rfl) ?_
      refine g_nil ?_
      refine gk_then (gk_take 0 ?_)
      refine gk_sub ?hs_10 (hKL4 (k + 1) ?hi_10 ?hm_10)
      case hs_10 => exact (sub_cons rfl (sub_cons rfl (sub_cons rfl sub_nil)))
      case hi_10 => exact ⟨by omega, all_next hno hc1⟩
      case hm_10 => omega
  · try simp only [decide_eq_true_eq, decide_eq_false_iff_not, Bool.not_eq_true', Bool.not_eq_false', Bool.not_eq_eq_eq_not, Bool.not_true, Bool.not_false, ne_eq, Decidable.not_not, Classical.not_not] at hc0
    refine gc_exit ?_
    refine gk_then_exit ?_
    refine gk_then_exit ?_
    refine gk_block_hit ?_
    refine gk_then (hK2 _ _ ?_)
    refine gc_seq fun K11 hK11 => ?_
    refine gc_region ?_
    refine g_v (.free rfl) rfl rfl (qt_assign rfl rfl) ?_
    refine g_nil ?_
    refine gk_then (hK11 _ _ ?_)
    refine gc_ret ?_
    refine ret_1 rfl rfl  (fun w M => ?_)
    have hn : ¬ x ∈ xs := fun hm => by
      obtain ⟨j, hj, he⟩ := mem_atK hm
      exact hno j (by omega) he
    rw [decide_eq_false hn]; exact ⟨rfl, M.1⟩

set_option maxHeartbeats 1000000 in
set_option maxRecDepth 100000 in
theorem specMono_any (w : World) (v : Value) (c : Cat) (f : Int) (h : RdC w v c) (hS : ShapeP c) (f0 : 0 ≤ f) (f1 : f < c.s.length) :
    Calls Try.prog 91 #[v, .int .i64 f] w (RetB w (bP (monoP c f))) := by
  have h0 := h
  obtain ⟨va, vb, vc, vd, ve, vf, vg, vh, rfl, h1, h2, h3, h4, _⟩ := h.lists
  have hf := arrP hS f0 f1
  have e1 := hf.fs; have e2 := hf.ft; have e3 := hf.fm; have e4 := hf.s0; have e5 := hf.s1; have e6 := hf.t0; have e7 := hf.t1; have e8 := hf.row
  have hn40 := hS.n40; have htl := hS.tl; have hel := hS.el
  go_enter Try.func91, Try.ntmps91
  refine gc_enter (N := 79) rfl (look_cons (k := 0) rfl (look_cons (k := 1) rfl (look_nil _))) ?_
  refine gc_seq fun K1 hK1 => ?_
  refine gc_region ?_
  refine g_op (.free rfl) fun K3 hK3 => ?_
  refine go_box rfl rfl rfl rfl rfl ?_
  intro B2
  refine hK3 _ _ ?_
  refine g_v (.free rfl) rfl rfl (qt_assign rfl rfl) ?_
  refine g_nil ?_
  refine gk_then (hK1 _ _ ?_)
  refine gc_seq fun K4 hK4 => ?_
  refine gc_seq fun K5 hK5 => ?_
  refine gc_region ?_
  refine g_v (.free rfl) rfl rfl (qt_assign rfl rfl) ?_
  refine g_nil ?_
  refine gk_then (hK5 _ _ ?_)
  refine gc_block ?_
  try simp only [List.nil_append, List.cons_append, List.append_assoc, List.set_cons_succ, List.set_cons_zero]
  refine gc_loop ([(0, _), (1, _), (2, _)] : Env) (fun s : Nat => (fun (k : Nat) => ([(5, .int .i64 (k : Int))] : Env)) s) (fun s : Nat => (fun (k : Nat) => ([] : List (Nat × Itm))) s) (fun s : Nat => (fun (k : Nat) => k ≤ c.s.length ∧ noB (badM c f) c.s.length k 0) s) (fun s : Nat => (fun (k : Nat) => c.s.length - k) s) (0) (sub_cons rfl (sub_cons rfl (sub_cons rfl (sub_cons rfl sub_nil)))) rfl ⟨Nat.zero_le _, noB_zero _ _⟩ ?_
  rintro k hinv KL6 hKL6
  simp only [updL, List.foldl_cons, List.foldl_nil, List.set_cons_succ, List.set_cons_zero, List.cons_append, List.nil_append] at hinv hKL6 ⊢
  obtain ⟨hk, hno⟩ := hinv
  refine gc_seq fun K7 hK7 => ?_
  refine gc_seq fun K8 hK8 => ?_
  refine gc_region ?_
  refine g_v (.free rfl) rfl rfl (qt_move rfl rfl) ?_
  refine g_v (.free rfl) rfl rfl (qt_field (z := 0) (off := 1) rfl rfl Try.underlying29 rfl (by kernel_rfl) rfl) ?_
  refine g_v (.free rfl) rfl rfl (qt_loadB (n := 0) rfl rfl Try.underlying22 rfl rfl rfl) ?_
  refine g_v (.free rfl) rfl rfl (qt_len rfl rfl ulE1 (fun w M => lenV_rd h1)) ?_
  refine g_v (.free rfl) rfl rfl (qt_lss rfl rfl rfl) ?_
  refine g_nil ?_
  refine gk_then (hK8 _ _ ?_)
  refine gc_cond rfl (fun hc0 => ?_) (fun hc0 => ?_)
  · try simp only [decide_eq_true_eq, decide_eq_false_iff_not, Bool.not_eq_true', Bool.not_eq_false', Bool.not_eq_eq_eq_not, Bool.not_true, Bool.not_false, ne_eq, Decidable.not_not, Classical.not_not] at hc0
    refine gc_skip ?_
    refine gk_then (hK7 _ _ ?_)
    refine gc_seq fun K9 hK9 => ?_
    refine gc_block ?_
    refine gc_seq fun K10 hK10 => ?_
    refine gc_region ?_
    refine g_v (.free rfl) rfl rfl (qt_move rfl rfl) ?_
    refine g_v (.free rfl) rfl rfl (qt_add rfl rfl rfl (by omega)) ?_
    refine g_v (.free rfl) rfl rfl (qt_assign rfl rfl) ?_
    refine g_nil ?_
    refine gk_then (hK10 _ _ ?_)
    refine gc_block ?_
    try simp only [List.nil_append, List.cons_append, List.append_assoc, List.set_cons_succ, List.set_cons_zero]
    refine gc_loop ([(0, _), (1, _), (2, _), (5, _), (11, _)] : Env) (fun s : Nat => (fun (l : Nat) => ([(6, .int .i64 (l : Int))] : Env)) s) (fun s : Nat => (fun (l : Nat) => ([] : List (Nat × Itm))) s) (fun s : Nat => (fun (l : Nat) => k + 1 ≤ l ∧ l ≤ c.s.length ∧ noB (badM c f) c.s.length k l) s) (fun s : Nat => (fun (l : Nat) => c.s.length - l) s) (k + 1) (sub_cons rfl (sub_cons rfl (sub_cons rfl (sub_cons rfl (sub_cons rfl (sub_cons rfl sub_nil)))))) rfl ⟨Nat.le_refl _, by omega, noB_row hno⟩ ?_
    rintro l hinv KL11 hKL11
    simp only [updL, List.foldl_cons, List.foldl_nil, List.set_cons_succ, List.set_cons_zero, List.cons_append, List.nil_append] at hinv hKL11 ⊢
    obtain ⟨hl0, hl1, hno1⟩ := hinv
    refine gc_seq fun K12 hK12 => ?_
    refine gc_seq fun K13 hK13 => ?_
    refine gc_region ?_
    refine g_v (.free rfl) rfl rfl (qt_move rfl rfl) ?_
    refine g_v (.free rfl) rfl rfl (qt_field (z := 0) (off := 1) rfl rfl Try.underlying29 rfl (by kernel_rfl) rfl) ?_
    refine g_v (.free rfl) rfl rfl (qt_loadB (n := 0) rfl rfl Try.underlying22 rfl rfl rfl) ?_
    refine g_v (.free rfl) rfl rfl (qt_len rfl rfl ulE1 (fun w M => lenV_rd h1)) ?_
    refine g_v (.free rfl) rfl rfl (qt_lss rfl rfl rfl) ?_
    refine g_nil ?_
    refine gk_then (hK13 _ _ ?_)
    refine gc_cond rfl (fun hc1 => ?_) (fun hc1 => ?_)
    · try simp only [decide_eq_true_eq, decide_eq_false_iff_not, Bool.not_eq_true', Bool.not_eq_false', Bool.not_eq_eq_eq_not, Bool.not_true, Bool.not_false, ne_eq, Decidable.not_not, Classical.not_not] at hc1
      refine gc_skip ?_
      refine gk_then (hK12 _ _ ?_)
      refine gc_seq fun K14 hK14 => ?_
      refine gc_block ?_
      refine gc_seq fun K15 hK15 => ?_
      have hA := arrP hS (f := (k : Int)) (by omega) (by omega)
      have hB := arrP hS (f := (l : Int)) (by omega) (by omega)
      have a1 := hA.fs; have a2 := hA.ft; have a3 := hA.fm; have a4 := hA.row; have b1 := hB.fs; have b2 := hB.ft; have b3 := hB.fm; have b4 := hB.row
      refine gc_draw (by kernel_rfl) ?_
      refine gd_v (.free rfl) rfl rfl (qt_field (z := 0) (off := 1) rfl rfl Try.underlying29 rfl (by kernel_rfl) rfl) ?_
      refine gd_v (.free rfl) rfl rfl (qt_loadB (n := 0) rfl rfl Try.underlying22 rfl rfl rfl) ?_
      refine gd_v (.free rfl) rfl rfl (qt_move rfl rfl) ?_
      refine gd_v (.free rfl) rfl rfl (qt_index rfl rfl rfl ulE1 szE1 (fun w M => lenA_rd h1) (by omega) (by omega)) ?_
      refine gd_v (.free rfl) rfl rfl (qt_load1 rfl rfl Try.underlying2 rfl (fun w M => mem_rd M h1) (by omega) (by omega)) ?_
      refine gd_v (.free rfl) rfl rfl (qt_field (z := 0) (off := 1) rfl rfl Try.underlying29 rfl (by kernel_rfl) rfl) ?_
      refine gd_v (.free rfl) rfl rfl (qt_loadB (n := 0) rfl rfl Try.underlying22 rfl rfl rfl) ?_
      refine gd_v (.free rfl) rfl rfl (qt_move rfl rfl) ?_
      refine gd_v (.free rfl) rfl rfl (qt_index rfl rfl rfl ulE1 szE1 (fun w M => lenA_rd h1) (by omega) (by omega)) ?_
      refine gd_v (.free rfl) rfl rfl (qt_load1 rfl rfl Try.underlying2 rfl (fun w M => mem_rd M h1) (by omega) (by omega)) ?_
      refine gd_v (.free rfl) rfl rfl (qt_eql rfl rfl rfl) ?_
      refine gd_splitv (.free rfl) rfl rfl (qt_move rfl rfl) (fun hs7_11 => ?_) (fun hs7_11 => ?_)
      · try simp only [decide_eq_true_eq, decide_eq_false_iff_not, Bool.not_eq_true', Bool.not_eq_false', Bool.not_eq_eq_eq_not, Bool.not_true, Bool.not_false, ne_eq, Decidable.not_not, Classical.not_not] at hs7_11
        refine gd_v (.held _ _ _ rfl rfl rfl) rfl rfl (qt_field (z := 0) (off := 2) rfl rfl Try.underlying29 rfl (by kernel_rfl) rfl) ?_
        refine gd_v (.held _ _ _ rfl rfl rfl) rfl rfl (qt_loadB (n := 0) rfl rfl Try.underlying22 rfl rfl rfl) ?_
        refine gd_v (.held _ _ _ rfl rfl rfl) rfl rfl (qt_move rfl rfl) ?_
        refine gd_v (.held _ _ _ rfl rfl rfl) rfl rfl (qt_index rfl rfl rfl ulE1 szE1 (fun w M => lenA_rd h2) (by omega) (by omega)) ?_
        refine gd_v (.held _ _ _ rfl rfl rfl) rfl rfl (qt_load1 rfl rfl Try.underlying2 rfl (fun w M => mem_rd M h2) (by omega) (by omega)) ?_
        refine gd_v (.held _ _ _ rfl rfl rfl) rfl rfl (qt_field (z := 0) (off := 1) rfl rfl Try.underlying29 rfl (by kernel_rfl) rfl) ?_
        refine gd_v (.held _ _ _ rfl rfl rfl) rfl rfl (qt_loadB (n := 0) rfl rfl Try.underlying22 rfl rfl rfl) ?_
        refine gd_v (.held _ _ _ rfl rfl rfl) rfl rfl (qt_move rfl rfl) ?_
        refine gd_v (.held _ _ _ rfl rfl rfl) rfl rfl (qt_index rfl rfl rfl ulE1 szE1 (fun w M => lenA_rd h1) (by omega) (by omega)) ?_
        refine gd_v (.held _ _ _ rfl rfl rfl) rfl rfl (qt_load1 rfl rfl Try.underlying2 rfl (fun w M => mem_rd M h1) (by omega) (by omega)) ?_
        refine gd_v (.held _ _ _ rfl rfl rfl) rfl rfl (qt_eql rfl rfl rfl) ?_
        refine gd_v (.free rfl) rfl rfl (qt_pick_t rfl rfl rfl) ?_
        refine gd_splitv (.free rfl) rfl rfl (qt_move rfl rfl) (fun hs7_24 => ?_) (fun hs7_24 => ?_)
        · try simp only [decide_eq_true_eq, decide_eq_false_iff_not, Bool.not_eq_true', Bool.not_eq_false', Bool.not_eq_eq_eq_not, Bool.not_true, Bool.not_false, ne_eq, Decidable.not_not, Classical.not_not] at hs7_24
          refine gd_v (.held _ _ _ rfl rfl rfl) rfl rfl (qt_field (z := 0) (off := 2) rfl rfl Try.underlying29 rfl (by kernel_rfl) rfl) ?_
          refine gd_v (.held _ _ _ rfl rfl rfl) rfl rfl (qt_loadB (n := 0) rfl rfl Try.underlying22 rfl rfl rfl) ?_
          refine gd_v (.held _ _ _ rfl rfl rfl) rfl rfl (qt_move rfl rfl) ?_
          refine gd_v (.held _ _ _ rfl rfl rfl) rfl rfl (qt_index rfl rfl rfl ulE1 szE1 (fun w M => lenA_rd h2) (by omega) (by omega)) ?_
          refine gd_v (.held _ _ _ rfl rfl rfl) rfl rfl (qt_load1 rfl rfl Try.underlying2 rfl (fun w M => mem_rd M h2) (by omega) (by omega)) ?_
          refine gd_v (.held _ _ _ rfl rfl rfl) rfl rfl (qt_field (z := 0) (off := 1) rfl rfl Try.underlying29 rfl (by kernel_rfl) rfl) ?_
          refine gd_v (.held _ _ _ rfl rfl rfl) rfl rfl (qt_loadB (n := 0) rfl rfl Try.underlying22 rfl rfl rfl) ?_
          refine gd_v (.held _ _ _ rfl rfl rfl) rfl rfl (qt_move rfl rfl) ?_
          refine gd_v (.held _ _ _ rfl rfl rfl) rfl rfl (qt_index rfl rfl rfl ulE1 szE1 (fun w M => lenA_rd h1) (by omega) (by omega)) ?_
          refine gd_v (.held _ _ _ rfl rfl rfl) rfl rfl (qt_load1 rfl rfl Try.underlying2 rfl (fun w M => mem_rd M h1) (by omega) (by omega)) ?_
          refine gd_v (.held _ _ _ rfl rfl rfl) rfl rfl (qt_eql rfl rfl rfl) ?_
          refine gd_v (.free rfl) rfl rfl (qt_pick_t rfl rfl rfl) ?_
          refine gd_splitv (.free rfl) rfl rfl (qt_move rfl rfl) (fun hs7_37 => ?_) (fun hs7_37 => ?_)
          · try simp only [decide_eq_true_eq, decide_eq_false_iff_not, Bool.not_eq_true', Bool.not_eq_false', Bool.not_eq_eq_eq_not, Bool.not_true, Bool.not_false, ne_eq, Decidable.not_not, Classical.not_not] at hs7_37
            refine gd_v (.held _ _ _ rfl rfl rfl) rfl rfl (qt_field (z := 0) (off := 4) rfl rfl Try.underlying29 rfl (by kernel_rfl) rfl) ?_
            refine gd_v (.held _ _ _ rfl rfl rfl) rfl rfl (qt_loadB (n := 0) rfl rfl Try.underlying23 rfl rfl rfl) ?_
            refine gd_v (.held _ _ _ rfl rfl rfl) rfl rfl (qt_move rfl rfl) ?_
            refine gd_v (.held _ _ _ rfl rfl rfl) rfl rfl (qt_index rfl rfl rfl ulE2 szE2 (fun w M => lenA_rd2 h4) (by omega) (by omega)) ?_
            refine gd_load2 (.held _ _ _ rfl rfl rfl) rfl rfl rfl rfl Try.underlying22 rfl h4 (by omega) (by omega) ?_
            intro ra16 rc16 hr16
            refine gd_v (.held _ _ _ rfl rfl rfl) rfl rfl (qt_move rfl rfl) ?_
            refine gd_v (.held _ _ _ rfl rfl rfl) rfl rfl (qt_index rfl rfl rfl ulE1 szE1 (fun w M => lenA_rd hr16) (by omega) (by omega)) ?_
            refine gd_v (.held _ _ _ rfl rfl rfl) rfl rfl (qt_load1 rfl rfl Try.underlying2 rfl (fun w M => mem_rd M hr16) (by omega) (by omega)) ?_
            refine gd_v (.held _ _ _ rfl rfl rfl) rfl rfl (qt_field (z := 0) (off := 4) rfl rfl Try.underlying29 rfl (by kernel_rfl) rfl) ?_
            refine gd_v (.held _ _ _ rfl rfl rfl) rfl rfl (qt_loadB (n := 0) rfl rfl Try.underlying23 rfl rfl rfl) ?_
            refine gd_v (.held _ _ _ rfl rfl rfl) rfl rfl (qt_move rfl rfl) ?_
            refine gd_v (.held _ _ _ rfl rfl rfl) rfl rfl (qt_index rfl rfl rfl ulE2 szE2 (fun w M => lenA_rd2 h4) (by omega) (by omega)) ?_
            refine gd_load2 (.held _ _ _ rfl rfl rfl) rfl rfl rfl rfl Try.underlying22 rfl h4 (by omega) (by omega) ?_
            intro ra17 rc17 hr17
            refine gd_v (.held _ _ _ rfl rfl rfl) rfl rfl (qt_move rfl rfl) ?_
            refine gd_v (.held _ _ _ rfl rfl rfl) rfl rfl (qt_index rfl rfl rfl ulE1 szE1 (fun w M => lenA_rd hr17) (by omega) (by omega)) ?_
            refine gd_v (.held _ _ _ rfl rfl rfl) rfl rfl (qt_load1 rfl rfl Try.underlying2 rfl (fun w M => mem_rd M hr17) (by omega) (by omega)) ?_
            refine gd_v (.held _ _ _ rfl rfl rfl) rfl rfl (qt_eql rfl rfl rfl) ?_
            refine gd_v (.free rfl) rfl rfl (qt_pick_t rfl rfl rfl) ?_
            refine gd_nil ?_
            refine gk_then (hK15 _ _ ?_)
            refine gc_cond rfl (fun hc2 => ?_) (fun hc2 => ?_)
            · try simp only [decide_eq_true_eq, decide_eq_false_iff_not, Bool.not_eq_true', Bool.not_eq_false', Bool.not_eq_eq_eq_not, Bool.not_true, Bool.not_false, ne_eq, Decidable.not_not, Classical.not_not] at hc2
              refine gc_seq fun K18 hK18 => ?_
              refine gc_region ?_
              refine g_v (.free rfl) rfl rfl (qt_assign rfl rfl) ?_
              refine g_nil ?_
              refine gk_then (hK18 _ _ ?_)
              refine gc_ret ?_
              refine gk_block_ret ?_
              refine gk_then_ret ?_
              refine gk_then_ret ?_
              refine gk_block_ret ?_
              refine gk_block_ret ?_
              refine gk_then_ret ?_
              refine gk_then_ret ?_
              refine gk_block_ret ?_
              refine gk_then_ret ?_
              refine ret_1 rfl rfl  (fun w M => ?_)
              rw [bP_f (mono_not hS f0 f1 (g := k) (h := l) (by omega) (by omega) ⟨hs7_11, hs7_24, hs7_37, hc2⟩)]; exact ⟨rfl, M.1⟩
            · try simp only [decide_eq_true_eq, decide_eq_false_iff_not, Bool.not_eq_true', Bool.not_eq_false', Bool.not_eq_eq_eq_not, Bool.not_true, Bool.not_false, ne_eq, Decidable.not_not, Classical.not_not] at hc2
              refine gc_skip ?_
              refine gk_block ?_
              refine gk_then (hK14 _ _ ?_)
              refine gc_region ?_
              refine g_v (.free rfl) rfl rfl (qt_move rfl rfl) ?_
              refine g_v (.free rfl) rfl rfl (qt_add rfl rfl rfl (by omega)) ?_
              refine g_v (.free rfl) rfl rfl (qt_assign rfl rfl) ?_
              refine g_nil ?_
              refine gk_then (gk_take 1 ?_)
              refine gk_sub ?hs_19 (hKL11 (l + 1) ?hi_19 ?hm_19)
              case hs_19 => exact (sub_cons rfl (sub_cons rfl (sub_cons rfl (sub_cons rfl (sub_cons rfl (sub_cons rfl sub_nil))))))
              case hi_19 => exact ⟨by omega, by omega, noB_next hno1 fun h => hc2 h.2.2.2⟩
              case hm_19 => omega
          · try simp only [decide_eq_true_eq, decide_eq_false_iff_not, Bool.not_eq_true', Bool.not_eq_false', Bool.not_eq_eq_eq_not, Bool.not_true, Bool.not_false, ne_eq, Decidable.not_not, Classical.not_not] at hs7_37
            refine gd_skip (.not _ _ _ _ rfl rfl rfl rfl) rfl rfl ?_
            refine gd_skip (.not _ _ _ _ rfl rfl rfl rfl) rfl rfl ?_
            refine gd_skip (.not _ _ _ _ rfl rfl rfl rfl) rfl rfl ?_
            refine gd_skip (.not _ _ _ _ rfl rfl rfl rfl) rfl rfl ?_
            refine gd_skip (.not _ _ _ _ rfl rfl rfl rfl) rfl rfl ?_
            refine gd_skip (.not _ _ _ _ rfl rfl rfl rfl) rfl rfl ?_
            refine gd_skip (.not _ _ _ _ rfl rfl rfl rfl) rfl rfl ?_
            refine gd_skip (.not _ _ _ _ rfl rfl rfl rfl) rfl rfl ?_
            refine gd_skip (.not _ _ _ _ rfl rfl rfl rfl) rfl rfl ?_
            refine gd_skip (.not _ _ _ _ rfl rfl rfl rfl) rfl rfl ?_
            refine gd_skip (.not _ _ _ _ rfl rfl rfl rfl) rfl rfl ?_
            refine gd_skip (.not _ _ _ _ rfl rfl rfl rfl) rfl rfl ?_
            refine gd_skip (.not _ _ _ _ rfl rfl rfl rfl) rfl rfl ?_
            refine gd_skip (.not _ _ _ _ rfl rfl rfl rfl) rfl rfl ?_
            refine gd_skip (.not _ _ _ _ rfl rfl rfl rfl) rfl rfl ?_
            refine gd_skip (.not _ _ _ _ rfl rfl rfl rfl) rfl rfl ?_
            refine gd_skip (.not _ _ _ _ rfl rfl rfl rfl) rfl rfl ?_
            refine gd_v (.free rfl) rfl rfl (qt_pick_f rfl rfl rfl) ?_
            refine gd_nil ?_
            refine gk_then (hK15 _ _ ?_)
            refine gc_cond_f rfl ?_
            refine gc_skip ?_
            refine gk_block ?_
            refine gk_then (hK14 _ _ ?_)
            refine gc_region ?_
            refine g_v (.free rfl) rfl rfl (qt_move rfl rfl) ?_
            refine g_v (.free rfl) rfl rfl (qt_add rfl rfl rfl (by omega)) ?_
            refine g_v (.free rfl) rfl rfl (qt_assign rfl rfl) ?_
            refine g_nil ?_
            refine gk_then (gk_take 1 ?_)
            refine gk_sub ?hs_20 (hKL11 (l + 1) ?hi_20 ?hm_20)
            case hs_20 => exact (sub_cons rfl (sub_cons rfl (sub_cons rfl (sub_cons rfl (sub_cons rfl (sub_cons rfl sub_nil))))))
            case hi_20 => exact ⟨by omega, by omega, noB_next hno1 fun h => hs7_37 h.2.2.1⟩
            case hm_20 => omega
        · try simp only [decide_eq_true_eq, decide_eq_false_iff_not, Bool.not_eq_true', Bool.not_eq_false', Bool.not_eq_eq_eq_not, Bool.not_true, Bool.not_false, ne_eq, Decidable.not_not, Classical.not_not] at hs7_24
          refine gd_skip (.not _ _ _ _ rfl rfl rfl rfl) rfl rfl ?_
          refine gd_skip (.not _ _ _ _ rfl rfl rfl rfl) rfl rfl ?_
          refine gd_skip (.not _ _ _ _ rfl rfl rfl rfl) rfl rfl ?_
          refine gd_skip (.not _ _ _ _ rfl rfl rfl rfl) rfl rfl ?_
          refine gd_skip (.not _ _ _ _ rfl rfl rfl rfl) rfl rfl ?_
          refine gd_skip (.not _ _ _ _ rfl rfl rfl rfl) rfl rfl ?_
          refine gd_skip (.not _ _ _ _ rfl rfl rfl rfl) rfl rfl ?_
          refine gd_skip (.not _ _ _ _ rfl rfl rfl rfl) rfl rfl ?_
          refine gd_skip (.not _ _ _ _ rfl rfl rfl rfl) rfl rfl ?_
          refine gd_skip (.not _ _ _ _ rfl rfl rfl rfl) rfl rfl ?_
          refine gd_skip (.not _ _ _ _ rfl rfl rfl rfl) rfl rfl ?_
          refine gd_v (.free rfl) rfl rfl (qt_pick_f rfl rfl rfl) ?_
          refine gd_v (.free rfl) rfl rfl (qt_move rfl rfl) ?_
          refine gd_skip (.not _ _ _ _ rfl rfl rfl rfl) rfl rfl ?_
          refine gd_skip (.not _ _ _ _ rfl rfl rfl rfl) rfl rfl ?_
          refine gd_skip (.not _ _ _ _ rfl rfl rfl rfl) rfl rfl ?_
          refine gd_skip (.not _ _ _ _ rfl rfl rfl rfl) rfl rfl ?_
          refine gd_skip (.not _ _ _ _ rfl rfl rfl rfl) rfl rfl ?_
          refine gd_skip (.not _ _ _ _ rfl rfl rfl rfl) rfl rfl ?_
          refine gd_skip (.not _ _ _ _ rfl rfl rfl rfl) rfl rfl ?_
          refine gd_skip (.not _ _ _ _ rfl rfl rfl rfl) rfl rfl ?_
          refine gd_skip (.not _ _ _ _ rfl rfl rfl rfl) rfl rfl ?_
          refine gd_skip (.not _ _ _ _ rfl rfl rfl rfl) rfl rfl ?_
          refine gd_skip (.not _ _ _ _ rfl rfl rfl rfl) rfl rfl ?_
          refine gd_skip (.not _ _ _ _ rfl rfl rfl rfl) rfl rfl ?_
          refine gd_skip (.not _ _ _ _ rfl rfl rfl rfl) rfl rfl ?_
          refine gd_skip (.not _ _ _ _ rfl rfl rfl rfl) rfl rfl ?_
          refine gd_skip (.not _ _ _ _ rfl rfl rfl rfl) rfl rfl ?_
          refine gd_skip (.not _ _ _ _ rfl rfl rfl rfl) rfl rfl ?_
          refine gd_skip (.not _ _ _ _ rfl rfl rfl rfl) rfl rfl ?_
          refine gd_v (.free rfl) rfl rfl (qt_pick_f rfl rfl rfl) ?_
          refine gd_nil ?_
          refine gk_then (hK15 _ _ ?_)
          refine gc_cond_f rfl ?_
          refine gc_skip ?_
          refine gk_block ?_
          refine gk_then (hK14 _ _ ?_)
          refine gc_region ?_
          refine g_v (.free rfl) rfl rfl (qt_move rfl rfl) ?_
          refine g_v (.free rfl) rfl rfl (qt_add rfl rfl rfl (by omega)) ?_
          refine g_v (.free rfl) rfl rfl (qt_assign rfl rfl) ?_
          refine g_nil ?_
          refine gk_then (gk_take 1 ?_)
          refine gk_sub ?hs_21 (hKL11 (l + 1) ?hi_21 ?hm_21)
          case hs_21 => exact (sub_cons rfl (sub_cons rfl (sub_cons rfl (sub_cons rfl (sub_cons rfl (sub_cons rfl sub_nil))))))
          case hi_21 => exact ⟨by omega, by omega, noB_next hno1 fun h => hs7_24 h.2.1⟩
          case hm_21 => omega
      · try simp only [decide_eq_true_eq, decide_eq_false_iff_not, Bool.not_eq_true', Bool.not_eq_false', Bool.not_eq_eq_eq_not, Bool.not_true, Bool.not_false, ne_eq, Decidable.not_not, Classical.not_not] at hs7_11
        refine gd_skip (.not _ _ _ _ rfl rfl rfl rfl) rfl rfl ?_
        refine gd_skip (.not _ _ _ _ rfl rfl rfl rfl) rfl rfl ?_
        refine gd_skip (.not _ _ _ _ rfl rfl rfl rfl) rfl rfl ?_
        refine gd_skip (.not _ _ _ _ rfl rfl rfl rfl) rfl rfl ?_
        refine gd_skip (.not _ _ _ _ rfl rfl rfl rfl) rfl rfl ?_
        refine gd_skip (.not _ _ _ _ rfl rfl rfl rfl) rfl rfl ?_
        refine gd_skip (.not _ _ _ _ rfl rfl rfl rfl) rfl rfl ?_
        refine gd_skip (.not _ _ _ _ rfl rfl rfl rfl) rfl rfl ?_
        refine gd_skip (.not _ _ _ _ rfl rfl rfl rfl) rfl rfl ?_
        refine gd_skip (.not _ _ _ _ rfl rfl rfl rfl) rfl rfl ?_
        refine gd_skip (.not _ _ _ _ rfl rfl rfl rfl) rfl rfl ?_
        refine gd_v (.free rfl) rfl rfl (qt_pick_f rfl rfl rfl) ?_
        refine gd_v (.free rfl) rfl rfl (qt_move rfl rfl) ?_
        refine gd_skip (.not _ _ _ _ rfl rfl rfl rfl) rfl rfl ?_
        refine gd_skip (.not _ _ _ _ rfl rfl rfl rfl) rfl rfl ?_
        refine gd_skip (.not _ _ _ _ rfl rfl rfl rfl) rfl rfl ?_
        refine gd_skip (.not _ _ _ _ rfl rfl rfl rfl) rfl rfl ?_
        refine gd_skip (.not _ _ _ _ rfl rfl rfl rfl) rfl rfl ?_
        refine gd_skip (.not _ _ _ _ rfl rfl rfl rfl) rfl rfl ?_
        refine gd_skip (.not _ _ _ _ rfl rfl rfl rfl) rfl rfl ?_
        refine gd_skip (.not _ _ _ _ rfl rfl rfl rfl) rfl rfl ?_
        refine gd_skip (.not _ _ _ _ rfl rfl rfl rfl) rfl rfl ?_
        refine gd_skip (.not _ _ _ _ rfl rfl rfl rfl) rfl rfl ?_
        refine gd_skip (.not _ _ _ _ rfl rfl rfl rfl) rfl rfl ?_
        refine gd_v (.free rfl) rfl rfl (qt_pick_f rfl rfl rfl) ?_
        refine gd_v (.free rfl) rfl rfl (qt_move rfl rfl) ?_
        refine gd_skip (.not _ _ _ _ rfl rfl rfl rfl) rfl rfl ?_
        refine gd_skip (.not _ _ _ _ rfl rfl rfl rfl) rfl rfl ?_
        refine gd_skip (.not _ _ _ _ rfl rfl rfl rfl) rfl rfl ?_
        refine gd_skip (.not _ _ _ _ rfl rfl rfl rfl) rfl rfl ?_
        refine gd_skip (.not _ _ _ _ rfl rfl rfl rfl) rfl rfl ?_
        refine gd_skip (.not _ _ _ _ rfl rfl rfl rfl) rfl rfl ?_
        refine gd_skip (.not _ _ _ _ rfl rfl rfl rfl) rfl rfl ?_
        refine gd_skip (.not _ _ _ _ rfl rfl rfl rfl) rfl rfl ?_
        refine gd_skip (.not _ _ _ _ rfl rfl rfl rfl) rfl rfl ?_
        refine gd_skip (.not _ _ _ _ rfl rfl rfl rfl) rfl rfl ?_
        refine gd_skip (.not _ _ _ _ rfl rfl rfl rfl) rfl rfl ?_
        refine gd_skip (.not _ _ _ _ rfl rfl rfl rfl) rfl rfl ?_
        refine gd_skip (.not _ _ _ _ rfl rfl rfl rfl) rfl rfl ?_
        refine gd_skip (.not _ _ _ _ rfl rfl rfl rfl) rfl rfl ?_
        refine gd_skip (.not _ _ _ _ rfl rfl rfl rfl) rfl rfl ?_
        refine gd_skip (.not _ _ _ _ rfl rfl rfl rfl) rfl rfl ?_
        refine gd_skip (.not _ _ _ _ rfl rfl rfl rfl) rfl rfl ?_
        refine gd_v (.free rfl) rfl rfl (qt_pick_f rfl rfl rfl) ?_
        refine gd_nil ?_
        refine gk_then (hK15 _ _ ?_)
        refine gc_cond_f rfl ?_
        refine gc_skip ?_
        refine gk_block ?_
        refine gk_then (hK14 _ _ ?_)
        refine gc_region ?_
        refine g_v (.free rfl) rfl rfl (qt_move rfl rfl) ?_
        refine g_v (.free rfl) rfl rfl (qt_add rfl rfl rfl (by omega)) ?_
        refine g_v (.free rfl) rfl rfl (qt_assign rfl rfl) ?_
        refine g_nil ?_
        refine gk_then (gk_take 1 ?_)
        refine gk_sub ?hs_22 (hKL11 (l + 1) ?hi_22 ?hm_22)
        case hs_22 => exact (sub_cons rfl (sub_cons rfl (sub_cons rfl (sub_cons rfl (sub_cons rfl (sub_cons rfl sub_nil))))))
        case hi_22 => exact ⟨by omega, by omega, noB_next hno1 fun h => hs7_11 h.1⟩
        case hm_22 => omega
    · try simp only [decide_eq_true_eq, decide_eq_false_iff_not, Bool.not_eq_true', Bool.not_eq_false', Bool.not_eq_eq_eq_not, Bool.not_true, Bool.not_false, ne_eq, Decidable.not_not, Classical.not_not] at hc1
      refine gc_exit ?_
      refine gk_then_exit ?_
      refine gk_then_exit ?_
      refine gk_block_hit ?_
      refine gk_block ?_
      refine gk_then (hK9 _ _ ?_)
      refine gc_region ?_
      refine g_v (.free rfl) rfl rfl (qt_move rfl rfl) ?_
      refine g_v (.free rfl) rfl rfl (qt_add rfl rfl rfl (by omega)) ?_
      refine g_v (.free rfl) rfl rfl (qt_assign rfl rfl) ?_
      refine g_nil ?_
      refine gk_then (gk_take 1 ?_)
      refine gk_sub ?hs_23 (hKL6 (k + 1) ?hi_23 ?hm_23)
      case hs_23 => exact (sub_cons rfl (sub_cons rfl (sub_cons rfl (sub_cons rfl sub_nil))))
      case hi_23 => exact ⟨by omega, noB_end hno1 (by omega)⟩
      case hm_23 => omega
  · try simp only [decide_eq_true_eq, decide_eq_false_iff_not, Bool.not_eq_true', Bool.not_eq_false', Bool.not_eq_eq_eq_not, Bool.not_true, Bool.not_false, ne_eq, Decidable.not_not, Classical.not_not] at hc0
    refine gc_exit ?_
    refine gk_then_exit ?_
    refine gk_then_exit ?_
    refine gk_block_hit ?_
    refine gk_then (hK4 _ _ ?_)
    refine gc_seq fun K24 hK24 => ?_
    refine gc_region ?_
    refine g_v (.free rfl) rfl rfl (qt_assign rfl rfl) ?_
    refine g_nil ?_
    refine gk_then (hK24 _ _ ?_)
    refine gc_ret ?_
    refine ret_1 rfl rfl  (fun w M => ?_)
    obtain rfl : k = c.s.length := by omega
    rw [bP_t (mono_of hS f0 f1 hno)]; exact ⟨rfl, M.1⟩

set_option maxHeartbeats 1000000 in
set_option maxRecDepth 100000 in
theorem specRet_any (w : World) (v : Value) (c : Cat) (f : Int) (h : RdC w v c) (hS : ShapeP c) (f0 : 0 ≤ f) (f1 : f < c.s.length) :
    Calls Try.prog 149 #[v, .int .i64 f] w (RetL w (retL c f)) := by
  have h0 := h
  obtain ⟨va, vb, vc, vd, ve, vf, vg, vh, rfl, h1, h2, h3, h4, _⟩ := h.lists
  have hf := arrP hS f0 f1
  have e1 := hf.fs; have e2 := hf.ft; have e3 := hf.fm; have e4 := hf.s0; have e5 := hf.s1; have e6 := hf.t0; have e7 := hf.t1; have e8 := hf.row
  have hn40 := hS.n40; have htl := hS.tl; have hel := hS.el
  go_enter Try.func149, Try.ntmps149
  refine gc_enter (N := 64) rfl (look_cons (k := 0) rfl (look_cons (k := 1) rfl (look_nil _))) ?_
  refine gc_seq fun K1 hK1 => ?_
  refine gc_region ?_
  refine g_op (.free rfl) fun K3 hK3 => ?_
  refine go_box rfl rfl rfl rfl rfl ?_
  intro B2
  refine hK3 _ _ ?_
  refine g_v (.free rfl) rfl rfl (qt_assign rfl rfl) ?_
  refine g_nil ?_
  refine gk_then (hK1 _ _ ?_)
  refine gc_seq fun K4 hK4 => ?_
  refine gc_region ?_
  refine g_op (.free rfl) fun K6 hK6 => ?_
  refine go_slice0 rfl rfl rfl Try.underlying22 ?_
  intro B5
  refine hK6 _ _ ?_
  refine g_v (.free rfl) rfl rfl (qt_assign rfl rfl) ?_
  refine g_nil ?_
  refine gk_then (hK4 _ _ ?_)
  refine gc_seq fun K7 hK7 => ?_
  refine gc_seq fun K8 hK8 => ?_
  refine gc_region ?_
  refine g_v (.free rfl) rfl rfl (qt_assign rfl rfl) ?_
  refine g_nil ?_
  refine gk_then (hK8 _ _ ?_)
  refine gc_block ?_
  try simp only [List.nil_append, List.cons_append, List.append_assoc, List.set_cons_succ, List.set_cons_zero]
  refine gc_loop ([(0, _), (1, _), (2, _), (4, _)] : Env) (fun s : Nat × (Option Addr) × Nat => (fun (k : Nat) (a : Option Addr) (q : Nat) => ([(5, .slice a (solL (beh c f) (at0 c.e (at0 c.s f)) k).length q), (6, .int .i64 (k : Int))] : Env)) s.1 s.2.1 s.2.2) (fun s : Nat × (Option Addr) × Nat => (fun (k : Nat) (a : Option Addr) (q : Nat) => ([(1, own1I (.slice a (solL (beh c f) (at0 c.e (at0 c.s f)) k).length q) (solL (beh c f) (at0 c.e (at0 c.s f)) k))] : List (Nat × Itm))) s.1 s.2.1 s.2.2) (fun s : Nat × (Option Addr) × Nat => (fun (k : Nat) (a : Option Addr) (q : Nat) => k ≤ c.s.length) s.1 s.2.1 s.2.2) (fun s : Nat × (Option Addr) × Nat => (fun (k : Nat) (a : Option Addr) (q : Nat) => c.s.length - k) s.1 s.2.1 s.2.2) (0, _, _) (sub_cons rfl (sub_cons rfl (sub_cons rfl (sub_cons rfl (sub_cons rfl (sub_cons rfl sub_nil)))))) rfl (Nat.zero_le _) ?_
  rintro ⟨k, a, q⟩ hinv KL9 hKL9
  simp only [updL, List.foldl_cons, List.foldl_nil, List.set_cons_succ, List.set_cons_zero, List.cons_append, List.nil_append] at hinv hKL9 ⊢
  have hk := hinv
  have hl := sol_len (beh c f) (at0 c.e (at0 c.s f)) k
  refine gc_seq fun K10 hK10 => ?_
  refine gc_seq fun K11 hK11 => ?_
  refine gc_region ?_
  refine g_v (.free rfl) rfl rfl (qt_move rfl rfl) ?_
  refine g_v (.free rfl) rfl rfl (qt_field (z := 0) (off := 1) rfl rfl Try.underlying29 rfl (by kernel_rfl) rfl) ?_
  refine g_v (.free rfl) rfl rfl (qt_loadB (n := 0) rfl rfl Try.underlying22 rfl rfl rfl) ?_
  refine g_v (.free rfl) rfl rfl (qt_len rfl rfl ulE1 (fun w M => lenV_rd h1)) ?_
  refine g_v (.free rfl) rfl rfl (qt_lss rfl rfl rfl) ?_
  refine g_nil ?_
  refine gk_then (hK11 _ _ ?_)
  refine gc_cond rfl (fun hc0 => ?_) (fun hc0 => ?_)
  · try simp only [decide_eq_true_eq, decide_eq_false_iff_not, Bool.not_eq_true', Bool.not_eq_false', Bool.not_eq_eq_eq_not, Bool.not_true, Bool.not_false, ne_eq, Decidable.not_not, Classical.not_not] at hc0
    refine gc_skip ?_
    refine gk_then (hK10 _ _ ?_)
    refine gc_seq fun K12 hK12 => ?_
    refine gc_block ?_
    refine gc_seq fun K13 hK13 => ?_
    have hA := arrP hS (f := (k : Int)) (by omega) (by omega)
    have a1 := hA.fs; have a2 := hA.ft; have a3 := hA.fm; have a4 := hA.row
    refine gc_draw (by kernel_rfl) ?_
    refine gd_v (.free rfl) rfl rfl (qt_field (z := 0) (off := 1) rfl rfl Try.underlying29 rfl (by kernel_rfl) rfl) ?_
    refine gd_v (.free rfl) rfl rfl (qt_loadB (n := 0) rfl rfl Try.underlying22 rfl rfl rfl) ?_
    refine gd_v (.free rfl) rfl rfl (qt_move rfl rfl) ?_
    refine gd_v (.free rfl) rfl rfl (qt_index rfl rfl rfl ulE1 szE1 (fun w M => lenA_rd h1) (by omega) (by omega)) ?_
    refine gd_v (.free rfl) rfl rfl (qt_load1 rfl rfl Try.underlying2 rfl (fun w M => mem_rd M h1) (by omega) (by omega)) ?_
    refine gd_v (.free rfl) rfl rfl (qt_field (z := 0) (off := 2) rfl rfl Try.underlying29 rfl (by kernel_rfl) rfl) ?_
    refine gd_v (.free rfl) rfl rfl (qt_loadB (n := 0) rfl rfl Try.underlying22 rfl rfl rfl) ?_
    refine gd_v (.free rfl) rfl rfl (qt_move rfl rfl) ?_
    refine gd_v (.free rfl) rfl rfl (qt_index rfl rfl rfl ulE1 szE1 (fun w M => lenA_rd h2) (by omega) (by omega)) ?_
    refine gd_v (.free rfl) rfl rfl (qt_load1 rfl rfl Try.underlying2 rfl (fun w M => mem_rd M h2) (by omega) (by omega)) ?_
    refine gd_v (.free rfl) rfl rfl (qt_eql rfl rfl rfl) ?_
    refine gd_splitv (.free rfl) rfl rfl (qt_move rfl rfl) (fun hs5_11 => ?_) (fun hs5_11 => ?_)
    · try simp only [decide_eq_true_eq, decide_eq_false_iff_not, Bool.not_eq_true', Bool.not_eq_false', Bool.not_eq_eq_eq_not, Bool.not_true, Bool.not_false, ne_eq, Decidable.not_not, Classical.not_not] at hs5_11
      refine gd_v (.held _ _ _ rfl rfl rfl) rfl rfl (qt_field (z := 0) (off := 2) rfl rfl Try.underlying29 rfl (by kernel_rfl) rfl) ?_
      refine gd_v (.held _ _ _ rfl rfl rfl) rfl rfl (qt_loadB (n := 0) rfl rfl Try.underlying22 rfl rfl rfl) ?_
      refine gd_v (.held _ _ _ rfl rfl rfl) rfl rfl (qt_move rfl rfl) ?_
      refine gd_v (.held _ _ _ rfl rfl rfl) rfl rfl (qt_index rfl rfl rfl ulE1 szE1 (fun w M => lenA_rd h2) (by omega) (by omega)) ?_
      refine gd_v (.held _ _ _ rfl rfl rfl) rfl rfl (qt_load1 rfl rfl Try.underlying2 rfl (fun w M => mem_rd M h2) (by omega) (by omega)) ?_
      refine gd_v (.held _ _ _ rfl rfl rfl) rfl rfl (qt_field (z := 0) (off := 1) rfl rfl Try.underlying29 rfl (by kernel_rfl) rfl) ?_
      refine gd_v (.held _ _ _ rfl rfl rfl) rfl rfl (qt_loadB (n := 0) rfl rfl Try.underlying22 rfl rfl rfl) ?_
      refine gd_v (.held _ _ _ rfl rfl rfl) rfl rfl (qt_move rfl rfl) ?_
      refine gd_v (.held _ _ _ rfl rfl rfl) rfl rfl (qt_index rfl rfl rfl ulE1 szE1 (fun w M => lenA_rd h1) (by omega) (by omega)) ?_
      refine gd_v (.held _ _ _ rfl rfl rfl) rfl rfl (qt_load1 rfl rfl Try.underlying2 rfl (fun w M => mem_rd M h1) (by omega) (by omega)) ?_
      refine gd_v (.held _ _ _ rfl rfl rfl) rfl rfl (qt_eql rfl rfl rfl) ?_
      refine gd_v (.free rfl) rfl rfl (qt_pick_t rfl rfl rfl) ?_
      refine gd_splitv (.free rfl) rfl rfl (qt_move rfl rfl) (fun hs5_24 => ?_) (fun hs5_24 => ?_)
      · try simp only [decide_eq_true_eq, decide_eq_false_iff_not, Bool.not_eq_true', Bool.not_eq_false', Bool.not_eq_eq_eq_not, Bool.not_true, Bool.not_false, ne_eq, Decidable.not_not, Classical.not_not] at hs5_24
        refine gd_v (.held _ _ _ rfl rfl rfl) rfl rfl (qt_field (z := 0) (off := 4) rfl rfl Try.underlying29 rfl (by kernel_rfl) rfl) ?_
        refine gd_v (.held _ _ _ rfl rfl rfl) rfl rfl (qt_loadB (n := 0) rfl rfl Try.underlying23 rfl rfl rfl) ?_
        refine gd_v (.held _ _ _ rfl rfl rfl) rfl rfl (qt_move rfl rfl) ?_
        refine gd_v (.held _ _ _ rfl rfl rfl) rfl rfl (qt_index rfl rfl rfl ulE2 szE2 (fun w M => lenA_rd2 h4) (by omega) (by omega)) ?_
        refine gd_load2 (.held _ _ _ rfl rfl rfl) rfl rfl rfl rfl Try.underlying22 rfl h4 (by omega) (by omega) ?_
        intro ra14 rc14 hr14
        refine gd_v (.held _ _ _ rfl rfl rfl) rfl rfl (qt_move rfl rfl) ?_
        refine gd_v (.held _ _ _ rfl rfl rfl) rfl rfl (qt_index rfl rfl rfl ulE1 szE1 (fun w M => lenA_rd hr14) (by omega) (by omega)) ?_
        refine gd_v (.held _ _ _ rfl rfl rfl) rfl rfl (qt_load1 rfl rfl Try.underlying2 rfl (fun w M => mem_rd M hr14) (by omega) (by omega)) ?_
        refine gd_v (.held _ _ _ rfl rfl rfl) rfl rfl (qt_field (z := 0) (off := 3) rfl rfl Try.underlying29 rfl (by kernel_rfl) rfl) ?_
        refine gd_v (.held _ _ _ rfl rfl rfl) rfl rfl (qt_loadB (n := 0) rfl rfl Try.underlying22 rfl rfl rfl) ?_
        refine gd_v (.held _ _ _ rfl rfl rfl) rfl rfl (qt_field (z := 0) (off := 1) rfl rfl Try.underlying29 rfl (by kernel_rfl) rfl) ?_
        refine gd_v (.held _ _ _ rfl rfl rfl) rfl rfl (qt_loadB (n := 0) rfl rfl Try.underlying22 rfl rfl rfl) ?_
        refine gd_v (.held _ _ _ rfl rfl rfl) rfl rfl (qt_move rfl rfl) ?_
        refine gd_v (.held _ _ _ rfl rfl rfl) rfl rfl (qt_index rfl rfl rfl ulE1 szE1 (fun w M => lenA_rd h1) (by omega) (by omega)) ?_
        refine gd_v (.held _ _ _ rfl rfl rfl) rfl rfl (qt_load1 rfl rfl Try.underlying2 rfl (fun w M => mem_rd M h1) (by omega) (by omega)) ?_
        refine gd_v (.held _ _ _ rfl rfl rfl) rfl rfl (qt_index rfl rfl rfl ulE1 szE1 (fun w M => lenA_rd h3) (by omega) (by omega)) ?_
        refine gd_v (.held _ _ _ rfl rfl rfl) rfl rfl (qt_load1 rfl rfl Try.underlying2 rfl (fun w M => mem_rd M h3) (by omega) (by omega)) ?_
        refine gd_v (.held _ _ _ rfl rfl rfl) rfl rfl (qt_eql rfl rfl rfl) ?_
        refine gd_v (.free rfl) rfl rfl (qt_pick_t rfl rfl rfl) ?_
        refine gd_nil ?_
        refine gk_then (hK13 _ _ ?_)
        refine gc_cond rfl (fun hc1 => ?_) (fun hc1 => ?_)
        · try simp only [decide_eq_true_eq, decide_eq_false_iff_not, Bool.not_eq_true', Bool.not_eq_false', Bool.not_eq_eq_eq_not, Bool.not_true, Bool.not_false, ne_eq, Decidable.not_not, Classical.not_not] at hc1
          refine gc_region ?_
          refine g_v (.free rfl) rfl rfl (qt_move rfl rfl) ?_
          refine g_v (.free rfl) rfl rfl (qt_move rfl rfl) ?_
          refine g_op (.free rfl) fun K16 hK16 => ?_
          refine go_slice1 rfl rfl rfl rfl Try.underlying22 ?_
          intro B15
          refine hK16 _ _ ?_
          refine g_op (.free rfl) fun K18 hK18 => ?_
          refine go_append (n := 1) (m := 2) rfl rfl rfl Try.underlying22 rfl rfl rfl rfl (by omega) ?_
          intro va17 vc17
          refine hK18 _ _ ?_
          refine g_v (.free rfl) rfl rfl (qt_assign rfl rfl) ?_
          refine g_nil ?_
          refine gk_block ?_
          refine gk_then (hK12 _ _ ?_)
          refine gc_region ?_
          refine g_v (.free rfl) rfl rfl (qt_move rfl rfl) ?_
          refine g_v (.free rfl) rfl rfl (qt_add rfl rfl rfl (by omega)) ?_
          refine g_v (.free rfl) rfl rfl (qt_assign rfl rfl) ?_
          refine g_nil ?_
          rw [sol_t ((ret_iff hS f0 f1 (g := (k : Int)) (by omega) (by omega)).1 ⟨hs5_11, hs5_24, hc1⟩)]
          refine gk_then (gk_take 2 ?_)
          refine gk_sub ?hs_19 (hKL9 (k + 1, _, _) ?hi_19 ?hm_19)
          case hs_19 => exact (sub_cons rfl (sub_cons rfl (sub_cons rfl (sub_cons rfl (sub_cons rfl (sub_cons rfl sub_nil))))))
          case hi_19 => omega
          case hm_19 => omega
        · try simp only [decide_eq_true_eq, decide_eq_false_iff_not, Bool.not_eq_true', Bool.not_eq_false', Bool.not_eq_eq_eq_not, Bool.not_true, Bool.not_false, ne_eq, Decidable.not_not, Classical.not_not] at hc1
          refine gc_skip ?_
          refine gk_block ?_
          refine gk_then (hK12 _ _ ?_)
          refine gc_region ?_
          refine g_v (.free rfl) rfl rfl (qt_move rfl rfl) ?_
          refine g_v (.free rfl) rfl rfl (qt_add rfl rfl rfl (by omega)) ?_
          refine g_v (.free rfl) rfl rfl (qt_assign rfl rfl) ?_
          refine g_nil ?_
          rw [sol_f (fun h => hc1 ((ret_iff hS f0 f1 (g := (k : Int)) (by omega) (by omega)).2 h).2.2)]
          refine gk_then (gk_take 2 ?_)
          refine gk_sub ?hs_20 (hKL9 (k + 1, _, _) ?hi_20 ?hm_20)
          case hs_20 => exact (sub_cons rfl (sub_cons rfl (sub_cons rfl (sub_cons rfl (sub_cons rfl (sub_cons rfl sub_nil))))))
          case hi_20 => omega
          case hm_20 => omega
      · try simp only [decide_eq_true_eq, decide_eq_false_iff_not, Bool.not_eq_true', Bool.not_eq_false', Bool.not_eq_eq_eq_not, Bool.not_true, Bool.not_false, ne_eq, Decidable.not_not, Classical.not_not] at hs5_24
        refine gd_skip (.not _ _ _ _ rfl rfl rfl rfl) rfl rfl ?_
        refine gd_skip (.not _ _ _ _ rfl rfl rfl rfl) rfl rfl ?_
        refine gd_skip (.not _ _ _ _ rfl rfl rfl rfl) rfl rfl ?_
        refine gd_skip (.not _ _ _ _ rfl rfl rfl rfl) rfl rfl ?_
        refine gd_skip (.not _ _ _ _ rfl rfl rfl rfl) rfl rfl ?_
        refine gd_skip (.not _ _ _ _ rfl rfl rfl rfl) rfl rfl ?_
        refine gd_skip (.not _ _ _ _ rfl rfl rfl rfl) rfl rfl ?_
        refine gd_skip (.not _ _ _ _ rfl rfl rfl rfl) rfl rfl ?_
        refine gd_skip (.not _ _ _ _ rfl rfl rfl rfl) rfl rfl ?_
        refine gd_skip (.not _ _ _ _ rfl rfl rfl rfl) rfl rfl ?_
        refine gd_skip (.not _ _ _ _ rfl rfl rfl rfl) rfl rfl ?_
        refine gd_skip (.not _ _ _ _ rfl rfl rfl rfl) rfl rfl ?_
        refine gd_skip (.not _ _ _ _ rfl rfl rfl rfl) rfl rfl ?_
        refine gd_skip (.not _ _ _ _ rfl rfl rfl rfl) rfl rfl ?_
        refine gd_skip (.not _ _ _ _ rfl rfl rfl rfl) rfl rfl ?_
        refine gd_skip (.not _ _ _ _ rfl rfl rfl rfl) rfl rfl ?_
        refine gd_skip (.not _ _ _ _ rfl rfl rfl rfl) rfl rfl ?_
        refine gd_skip (.not _ _ _ _ rfl rfl rfl rfl) rfl rfl ?_
        refine gd_v (.free rfl) rfl rfl (qt_pick_f rfl rfl rfl) ?_
        refine gd_nil ?_
        refine gk_then (hK13 _ _ ?_)
        refine gc_cond_f rfl ?_
        refine gc_skip ?_
        refine gk_block ?_
        refine gk_then (hK12 _ _ ?_)
        refine gc_region ?_
        refine g_v (.free rfl) rfl rfl (qt_move rfl rfl) ?_
        refine g_v (.free rfl) rfl rfl (qt_add rfl rfl rfl (by omega)) ?_
        refine g_v (.free rfl) rfl rfl (qt_assign rfl rfl) ?_
        refine g_nil ?_
        rw [sol_f (fun h => hs5_24 ((ret_iff hS f0 f1 (g := (k : Int)) (by omega) (by omega)).2 h).2.1)]
        refine gk_then (gk_take 2 ?_)
        refine gk_sub ?hs_21 (hKL9 (k + 1, _, _) ?hi_21 ?hm_21)
        case hs_21 => exact (sub_cons rfl (sub_cons rfl (sub_cons rfl (sub_cons rfl (sub_cons rfl (sub_cons rfl sub_nil))))))
        case hi_21 => omega
        case hm_21 => omega
    · try simp only [decide_eq_true_eq, decide_eq_false_iff_not, Bool.not_eq_true', Bool.not_eq_false', Bool.not_eq_eq_eq_not, Bool.not_true, Bool.not_false, ne_eq, Decidable.not_not, Classical.not_not] at hs5_11
      refine gd_skip (.not _ _ _ _ rfl rfl rfl rfl) rfl rfl ?_
      refine gd_skip (.not _ _ _ _ rfl rfl rfl rfl) rfl rfl ?_
      refine gd_skip (.not _ _ _ _ rfl rfl rfl rfl) rfl rfl ?_
      refine gd_skip (.not _ _ _ _ rfl rfl rfl rfl) rfl rfl ?_
      refine gd_skip (.not _ _ _ _ rfl rfl rfl rfl) rfl rfl ?_
      refine gd_skip (.not _ _ _ _ rfl rfl rfl rfl) rfl rfl ?_
      refine gd_skip (.not _ _ _ _ rfl rfl rfl rfl) rfl rfl ?_
      refine gd_skip (.not _ _ _ _ rfl rfl rfl rfl) rfl rfl ?_
      refine gd_skip (.not _ _ _ _ rfl rfl rfl rfl) rfl rfl ?_
      refine gd_skip (.not _ _ _ _ rfl rfl rfl rfl) rfl rfl ?_
      refine gd_skip (.not _ _ _ _ rfl rfl rfl rfl) rfl rfl ?_
      refine gd_v (.free rfl) rfl rfl (qt_pick_f rfl rfl rfl) ?_
      refine gd_v (.free rfl) rfl rfl (qt_move rfl rfl) ?_
      refine gd_skip (.not _ _ _ _ rfl rfl rfl rfl) rfl rfl ?_
      refine gd_skip (.not _ _ _ _ rfl rfl rfl rfl) rfl rfl ?_
      refine gd_skip (.not _ _ _ _ rfl rfl rfl rfl) rfl rfl ?_
      refine gd_skip (.not _ _ _ _ rfl rfl rfl rfl) rfl rfl ?_
      refine gd_skip (.not _ _ _ _ rfl rfl rfl rfl) rfl rfl ?_
      refine gd_skip (.not _ _ _ _ rfl rfl rfl rfl) rfl rfl ?_
      refine gd_skip (.not _ _ _ _ rfl rfl rfl rfl) rfl rfl ?_
      refine gd_skip (.not _ _ _ _ rfl rfl rfl rfl) rfl rfl ?_
      refine gd_skip (.not _ _ _ _ rfl rfl rfl rfl) rfl rfl ?_
      refine gd_skip (.not _ _ _ _ rfl rfl rfl rfl) rfl rfl ?_
      refine gd_skip (.not _ _ _ _ rfl rfl rfl rfl) rfl rfl ?_
      refine gd_skip (.not _ _ _ _ rfl rfl rfl rfl) rfl rfl ?_
      refine gd_skip (.not _ _ _ _ rfl rfl rfl rfl) rfl rfl ?_
      refine gd_skip (.not _ _ _ _ rfl rfl rfl rfl) rfl rfl ?_
      refine gd_skip (.not _ _ _ _ rfl rfl rfl rfl) rfl rfl ?_
      refine gd_skip (.not _ _ _ _ rfl rfl rfl rfl) rfl rfl ?_
      refine gd_skip (.not _ _ _ _ rfl rfl rfl rfl) rfl rfl ?_
      refine gd_skip (.not _ _ _ _ rfl rfl rfl rfl) rfl rfl ?_
      refine gd_v (.free rfl) rfl rfl (qt_pick_f rfl rfl rfl) ?_
      refine gd_nil ?_
      refine gk_then (hK13 _ _ ?_)
      refine gc_cond_f rfl ?_
      refine gc_skip ?_
      refine gk_block ?_
      refine gk_then (hK12 _ _ ?_)
      refine gc_region ?_
      refine g_v (.free rfl) rfl rfl (qt_move rfl rfl) ?_
      refine g_v (.free rfl) rfl rfl (qt_add rfl rfl rfl (by omega)) ?_
      refine g_v (.free rfl) rfl rfl (qt_assign rfl rfl) ?_
      refine g_nil ?_
      rw [sol_f (fun h => hs5_11 ((ret_iff hS f0 f1 (g := (k : Int)) (by omega) (by omega)).2 h).1)]
      refine gk_then (gk_take 2 ?_)
      refine gk_sub ?hs_22 (hKL9 (k + 1, _, _) ?hi_22 ?hm_22)
      case hs_22 => exact (sub_cons rfl (sub_cons rfl (sub_cons rfl (sub_cons rfl (sub_cons rfl (sub_cons rfl sub_nil))))))
      case hi_22 => omega
      case hm_22 => omega
  · try simp only [decide_eq_true_eq, decide_eq_false_iff_not, Bool.not_eq_true', Bool.not_eq_false', Bool.not_eq_eq_eq_not, Bool.not_true, Bool.not_false, ne_eq, Decidable.not_not, Classical.not_not] at hc0
    refine gc_exit ?_
    refine gk_then_exit ?_
    refine gk_then_exit ?_
    refine gk_block_hit ?_
    refine gk_then (hK7 _ _ ?_)
    refine gc_seq fun K23 hK23 => ?_
    refine gc_region ?_
    refine g_v (.free rfl) rfl rfl (qt_move rfl rfl) ?_
    refine g_v (.free rfl) rfl rfl (qt_assign rfl rfl) ?_
    refine g_nil ?_
    refine gk_then (hK23 _ _ ?_)
    refine gc_ret ?_
    refine ret_1 rfl rfl  (fun w M => ?_)
    obtain rfl : k = c.s.length := by omega
    exact ⟨_, rfl, mem_own1 (n := 1) M rfl, M.1⟩

set_option maxHeartbeats 1000000 in
set_option maxRecDepth 100000 in
theorem specSec_any (w : World) (v : Value) (c : Cat) (f : Int) (h : RdC w v c) (hS : ShapeP c) (f0 : 0 ≤ f) (f1 : f < c.s.length) :
    Calls Try.prog 150 #[v, .int .i64 f] w (RetL w (secL c f)) := by
  have h0 := h
  obtain ⟨va, vb, vc, vd, ve, vf, vg, vh, rfl, h1, h2, h3, h4, _⟩ := h.lists
  have hf := arrP hS f0 f1
  have e1 := hf.fs; have e2 := hf.ft; have e3 := hf.fm; have e4 := hf.s0; have e5 := hf.s1; have e6 := hf.t0; have e7 := hf.t1; have e8 := hf.row
  have hn40 := hS.n40; have htl := hS.tl; have hel := hS.el
  go_enter Try.func150, Try.ntmps150
  refine gc_enter (N := 64) rfl (look_cons (k := 0) rfl (look_cons (k := 1) rfl (look_nil _))) ?_
  refine gc_seq fun K1 hK1 => ?_
  refine gc_region ?_
  refine g_op (.free rfl) fun K3 hK3 => ?_
  refine go_box rfl rfl rfl rfl rfl ?_
  intro B2
  refine hK3 _ _ ?_
  refine g_v (.free rfl) rfl rfl (qt_assign rfl rfl) ?_
  refine g_nil ?_
  refine gk_then (hK1 _ _ ?_)
  refine gc_seq fun K4 hK4 => ?_
  refine gc_region ?_
  refine g_op (.free rfl) fun K6 hK6 => ?_
  refine go_slice0 rfl rfl rfl Try.underlying22 ?_
  intro B5
  refine hK6 _ _ ?_
  refine g_v (.free rfl) rfl rfl (qt_assign rfl rfl) ?_
  refine g_nil ?_
  refine gk_then (hK4 _ _ ?_)
  refine gc_seq fun K7 hK7 => ?_
  refine gc_seq fun K8 hK8 => ?_
  refine gc_region ?_
  refine g_v (.free rfl) rfl rfl (qt_assign rfl rfl) ?_
  refine g_nil ?_
  refine gk_then (hK8 _ _ ?_)
  refine gc_block ?_
  try simp only [List.nil_append, List.cons_append, List.append_assoc, List.set_cons_succ, List.set_cons_zero]
  refine gc_loop ([(0, _), (1, _), (2, _), (4, _)] : Env) (fun s : Nat × (Option Addr) × Nat => (fun (k : Nat) (a : Option Addr) (q : Nat) => ([(5, .slice a (solL (bef c f) (at0 c.e (at0 c.t f)) k).length q), (6, .int .i64 (k : Int))] : Env)) s.1 s.2.1 s.2.2) (fun s : Nat × (Option Addr) × Nat => (fun (k : Nat) (a : Option Addr) (q : Nat) => ([(1, own1I (.slice a (solL (bef c f) (at0 c.e (at0 c.t f)) k).length q) (solL (bef c f) (at0 c.e (at0 c.t f)) k))] : List (Nat × Itm))) s.1 s.2.1 s.2.2) (fun s : Nat × (Option Addr) × Nat => (fun (k : Nat) (a : Option Addr) (q : Nat) => k ≤ c.s.length) s.1 s.2.1 s.2.2) (fun s : Nat × (Option Addr) × Nat => (fun (k : Nat) (a : Option Addr) (q : Nat) => c.s.length - k) s.1 s.2.1 s.2.2) (0, _, _) (sub_cons rfl (sub_cons rfl (sub_cons rfl (sub_cons rfl (sub_cons rfl (sub_cons rfl sub_nil)))))) rfl (Nat.zero_le _) ?_
  rintro ⟨k, a, q⟩ hinv KL9 hKL9
  simp only [updL, List.foldl_cons, List.foldl_nil, List.set_cons_succ, List.set_cons_zero, List.cons_append, List.nil_append] at hinv hKL9 ⊢
  have hk := hinv
  have hl := sol_len (bef c f) (at0 c.e (at0 c.t f)) k
  refine gc_seq fun K10 hK10 => ?_
  refine gc_seq fun K11 hK11 => ?_
  refine gc_region ?_
  refine g_v (.free rfl) rfl rfl (qt_move rfl rfl) ?_
  refine g_v (.free rfl) rfl rfl (qt_field (z := 0) (off := 1) rfl rfl Try.underlying29 rfl (by kernel_rfl) rfl) ?_
  refine g_v (.free rfl) rfl rfl (qt_loadB (n := 0) rfl rfl Try.underlying22 rfl rfl rfl) ?_
  refine g_v (.free rfl) rfl rfl (qt_len rfl rfl ulE1 (fun w M => lenV_rd h1)) ?_
  refine g_v (.free rfl) rfl rfl (qt_lss rfl rfl rfl) ?_
  refine g_nil ?_
  refine gk_then (hK11 _ _ ?_)
  refine gc_cond rfl (fun hc0 => ?_) (fun hc0 => ?_)
  · try simp only [decide_eq_true_eq, decide_eq_false_iff_not, Bool.not_eq_true', Bool.not_eq_false', Bool.not_eq_eq_eq_not, Bool.not_true, Bool.not_false, ne_eq, Decidable.not_not, Classical.not_not] at hc0
    refine gc_skip ?_
    refine gk_then (hK10 _ _ ?_)
    refine gc_seq fun K12 hK12 => ?_
    refine gc_block ?_
    refine gc_seq fun K13 hK13 => ?_
    have hA := arrP hS (f := (k : Int)) (by omega) (by omega)
    have a1 := hA.fs; have a2 := hA.ft; have a3 := hA.fm; have a4 := hA.row
    refine gc_draw (by kernel_rfl) ?_
    refine gd_v (.free rfl) rfl rfl (qt_field (z := 0) (off := 1) rfl rfl Try.underlying29 rfl (by kernel_rfl) rfl) ?_
    refine gd_v (.free rfl) rfl rfl (qt_loadB (n := 0) rfl rfl Try.underlying22 rfl rfl rfl) ?_
    refine gd_v (.free rfl) rfl rfl (qt_move rfl rfl) ?_
    refine gd_v (.free rfl) rfl rfl (qt_index rfl rfl rfl ulE1 szE1 (fun w M => lenA_rd h1) (by omega) (by omega)) ?_
    refine gd_v (.free rfl) rfl rfl (qt_load1 rfl rfl Try.underlying2 rfl (fun w M => mem_rd M h1) (by omega) (by omega)) ?_
    refine gd_v (.free rfl) rfl rfl (qt_field (z := 0) (off := 2) rfl rfl Try.underlying29 rfl (by kernel_rfl) rfl) ?_
    refine gd_v (.free rfl) rfl rfl (qt_loadB (n := 0) rfl rfl Try.underlying22 rfl rfl rfl) ?_
    refine gd_v (.free rfl) rfl rfl (qt_move rfl rfl) ?_
    refine gd_v (.free rfl) rfl rfl (qt_index rfl rfl rfl ulE1 szE1 (fun w M => lenA_rd h2) (by omega) (by omega)) ?_
    refine gd_v (.free rfl) rfl rfl (qt_load1 rfl rfl Try.underlying2 rfl (fun w M => mem_rd M h2) (by omega) (by omega)) ?_
    refine gd_v (.free rfl) rfl rfl (qt_eql rfl rfl rfl) ?_
    refine gd_splitv (.free rfl) rfl rfl (qt_move rfl rfl) (fun hs5_11 => ?_) (fun hs5_11 => ?_)
    · try simp only [decide_eq_true_eq, decide_eq_false_iff_not, Bool.not_eq_true', Bool.not_eq_false', Bool.not_eq_eq_eq_not, Bool.not_true, Bool.not_false, ne_eq, Decidable.not_not, Classical.not_not] at hs5_11
      refine gd_v (.held _ _ _ rfl rfl rfl) rfl rfl (qt_field (z := 0) (off := 2) rfl rfl Try.underlying29 rfl (by kernel_rfl) rfl) ?_
      refine gd_v (.held _ _ _ rfl rfl rfl) rfl rfl (qt_loadB (n := 0) rfl rfl Try.underlying22 rfl rfl rfl) ?_
      refine gd_v (.held _ _ _ rfl rfl rfl) rfl rfl (qt_move rfl rfl) ?_
      refine gd_v (.held _ _ _ rfl rfl rfl) rfl rfl (qt_index rfl rfl rfl ulE1 szE1 (fun w M => lenA_rd h2) (by omega) (by omega)) ?_
      refine gd_v (.held _ _ _ rfl rfl rfl) rfl rfl (qt_load1 rfl rfl Try.underlying2 rfl (fun w M => mem_rd M h2) (by omega) (by omega)) ?_
      refine gd_v (.held _ _ _ rfl rfl rfl) rfl rfl (qt_field (z := 0) (off := 1) rfl rfl Try.underlying29 rfl (by kernel_rfl) rfl) ?_
      refine gd_v (.held _ _ _ rfl rfl rfl) rfl rfl (qt_loadB (n := 0) rfl rfl Try.underlying22 rfl rfl rfl) ?_
      refine gd_v (.held _ _ _ rfl rfl rfl) rfl rfl (qt_move rfl rfl) ?_
      refine gd_v (.held _ _ _ rfl rfl rfl) rfl rfl (qt_index rfl rfl rfl ulE1 szE1 (fun w M => lenA_rd h1) (by omega) (by omega)) ?_
      refine gd_v (.held _ _ _ rfl rfl rfl) rfl rfl (qt_load1 rfl rfl Try.underlying2 rfl (fun w M => mem_rd M h1) (by omega) (by omega)) ?_
      refine gd_v (.held _ _ _ rfl rfl rfl) rfl rfl (qt_eql rfl rfl rfl) ?_
      refine gd_v (.free rfl) rfl rfl (qt_pick_t rfl rfl rfl) ?_
      refine gd_splitv (.free rfl) rfl rfl (qt_move rfl rfl) (fun hs5_24 => ?_) (fun hs5_24 => ?_)
      · try simp only [decide_eq_true_eq, decide_eq_false_iff_not, Bool.not_eq_true', Bool.not_eq_false', Bool.not_eq_eq_eq_not, Bool.not_true, Bool.not_false, ne_eq, Decidable.not_not, Classical.not_not] at hs5_24
        refine gd_v (.held _ _ _ rfl rfl rfl) rfl rfl (qt_field (z := 0) (off := 4) rfl rfl Try.underlying29 rfl (by kernel_rfl) rfl) ?_
        refine gd_v (.held _ _ _ rfl rfl rfl) rfl rfl (qt_loadB (n := 0) rfl rfl Try.underlying23 rfl rfl rfl) ?_
        refine gd_v (.held _ _ _ rfl rfl rfl) rfl rfl (qt_move rfl rfl) ?_
        refine gd_v (.held _ _ _ rfl rfl rfl) rfl rfl (qt_index rfl rfl rfl ulE2 szE2 (fun w M => lenA_rd2 h4) (by omega) (by omega)) ?_
        refine gd_load2 (.held _ _ _ rfl rfl rfl) rfl rfl rfl rfl Try.underlying22 rfl h4 (by omega) (by omega) ?_
        intro ra14 rc14 hr14
        refine gd_v (.held _ _ _ rfl rfl rfl) rfl rfl (qt_move rfl rfl) ?_
        refine gd_v (.held _ _ _ rfl rfl rfl) rfl rfl (qt_index rfl rfl rfl ulE1 szE1 (fun w M => lenA_rd hr14) (by omega) (by omega)) ?_
        refine gd_v (.held _ _ _ rfl rfl rfl) rfl rfl (qt_load1 rfl rfl Try.underlying2 rfl (fun w M => mem_rd M hr14) (by omega) (by omega)) ?_
        refine gd_v (.held _ _ _ rfl rfl rfl) rfl rfl (qt_field (z := 0) (off := 3) rfl rfl Try.underlying29 rfl (by kernel_rfl) rfl) ?_
        refine gd_v (.held _ _ _ rfl rfl rfl) rfl rfl (qt_loadB (n := 0) rfl rfl Try.underlying22 rfl rfl rfl) ?_
        refine gd_v (.held _ _ _ rfl rfl rfl) rfl rfl (qt_field (z := 0) (off := 2) rfl rfl Try.underlying29 rfl (by kernel_rfl) rfl) ?_
        refine gd_v (.held _ _ _ rfl rfl rfl) rfl rfl (qt_loadB (n := 0) rfl rfl Try.underlying22 rfl rfl rfl) ?_
        refine gd_v (.held _ _ _ rfl rfl rfl) rfl rfl (qt_move rfl rfl) ?_
        refine gd_v (.held _ _ _ rfl rfl rfl) rfl rfl (qt_index rfl rfl rfl ulE1 szE1 (fun w M => lenA_rd h2) (by omega) (by omega)) ?_
        refine gd_v (.held _ _ _ rfl rfl rfl) rfl rfl (qt_load1 rfl rfl Try.underlying2 rfl (fun w M => mem_rd M h2) (by omega) (by omega)) ?_
        refine gd_v (.held _ _ _ rfl rfl rfl) rfl rfl (qt_index rfl rfl rfl ulE1 szE1 (fun w M => lenA_rd h3) (by omega) (by omega)) ?_
        refine gd_v (.held _ _ _ rfl rfl rfl) rfl rfl (qt_load1 rfl rfl Try.underlying2 rfl (fun w M => mem_rd M h3) (by omega) (by omega)) ?_
        refine gd_v (.held _ _ _ rfl rfl rfl) rfl rfl (qt_eql rfl rfl rfl) ?_
        refine gd_v (.free rfl) rfl rfl (qt_pick_t rfl rfl rfl) ?_
        refine gd_nil ?_
        refine gk_then (hK13 _ _ ?_)
        refine gc_cond rfl (fun hc1 => ?_) (fun hc1 => ?_)
        · try simp only [decide_eq_true_eq, decide_eq_false_iff_not, Bool.not_eq_true', Bool.not_eq_false', Bool.not_eq_eq_eq_not, Bool.not_true, Bool.not_false, ne_eq, Decidable.not_not, Classical.not_not] at hc1
          refine gc_region ?_
          refine g_v (.free rfl) rfl rfl (qt_move rfl rfl) ?_
          refine g_v (.free rfl) rfl rfl (qt_move rfl rfl) ?_
          refine g_op (.free rfl) fun K16 hK16 => ?_
          refine go_slice1 rfl rfl rfl rfl Try.underlying22 ?_
          intro B15
          refine hK16 _ _ ?_
          refine g_op (.free rfl) fun K18 hK18 => ?_
          refine go_append (n := 1) (m := 2) rfl rfl rfl Try.underlying22 rfl rfl rfl rfl (by omega) ?_
          intro va17 vc17
          refine hK18 _ _ ?_
          refine g_v (.free rfl) rfl rfl (qt_assign rfl rfl) ?_
          refine g_nil ?_
          refine gk_block ?_
          refine gk_then (hK12 _ _ ?_)
          refine gc_region ?_
          refine g_v (.free rfl) rfl rfl (qt_move rfl rfl) ?_
          refine g_v (.free rfl) rfl rfl (qt_add rfl rfl rfl (by omega)) ?_
          refine g_v (.free rfl) rfl rfl (qt_assign rfl rfl) ?_
          refine g_nil ?_
          rw [sol_t ((sec_iff hS f0 f1 (g := (k : Int)) (by omega) (by omega)).1 ⟨hs5_11, hs5_24, hc1⟩)]
          refine gk_then (gk_take 2 ?_)
          refine gk_sub ?hs_19 (hKL9 (k + 1, _, _) ?hi_19 ?hm_19)
          case hs_19 => exact (sub_cons rfl (sub_cons rfl (sub_cons rfl (sub_cons rfl (sub_cons rfl (sub_cons rfl sub_nil))))))
          case hi_19 => omega
          case hm_19 => omega
        · try simp only [decide_eq_true_eq, decide_eq_false_iff_not, Bool.not_eq_true', Bool.not_eq_false', Bool.not_eq_eq_eq_not, Bool.not_true, Bool.not_false, ne_eq, Decidable.not_not, Classical.not_not] at hc1
          refine gc_skip ?_
          refine gk_block ?_
          refine gk_then (hK12 _ _ ?_)
          refine gc_region ?_
          refine g_v (.free rfl) rfl rfl (qt_move rfl rfl) ?_
          refine g_v (.free rfl) rfl rfl (qt_add rfl rfl rfl (by omega)) ?_
          refine g_v (.free rfl) rfl rfl (qt_assign rfl rfl) ?_
          refine g_nil ?_
          rw [sol_f (fun h => hc1 ((sec_iff hS f0 f1 (g := (k : Int)) (by omega) (by omega)).2 h).2.2)]
          refine gk_then (gk_take 2 ?_)
          refine gk_sub ?hs_20 (hKL9 (k + 1, _, _) ?hi_20 ?hm_20)
          case hs_20 => exact (sub_cons rfl (sub_cons rfl (sub_cons rfl (sub_cons rfl (sub_cons rfl (sub_cons rfl sub_nil))))))
          case hi_20 => omega
          case hm_20 => omega
      · try simp only [decide_eq_true_eq, decide_eq_false_iff_not, Bool.not_eq_true', Bool.not_eq_false', Bool.not_eq_eq_eq_not, Bool.not_true, Bool.not_false, ne_eq, Decidable.not_not, Classical.not_not] at hs5_24
        refine gd_skip (.not _ _ _ _ rfl rfl rfl rfl) rfl rfl ?_
        refine gd_skip (.not _ _ _ _ rfl rfl rfl rfl) rfl rfl ?_
        refine gd_skip (.not _ _ _ _ rfl rfl rfl rfl) rfl rfl ?_
        refine gd_skip (.not _ _ _ _ rfl rfl rfl rfl) rfl rfl ?_
        refine gd_skip (.not _ _ _ _ rfl rfl rfl rfl) rfl rfl ?_
        refine gd_skip (.not _ _ _ _ rfl rfl rfl rfl) rfl rfl ?_
        refine gd_skip (.not _ _ _ _ rfl rfl rfl rfl) rfl rfl ?_
        refine gd_skip (.not _ _ _ _ rfl rfl rfl rfl) rfl rfl ?_
        refine gd_skip (.not _ _ _ _ rfl rfl rfl rfl) rfl rfl ?_
        refine gd_skip (.not _ _ _ _ rfl rfl rfl rfl) rfl rfl ?_
        refine gd_skip (.not _ _ _ _ rfl rfl rfl rfl) rfl rfl ?_
        refine gd_skip (.not _ _ _ _ rfl rfl rfl rfl) rfl rfl ?_
        refine gd_skip (.not _ _ _ _ rfl rfl rfl rfl) rfl rfl ?_
        refine gd_skip (.not _ _ _ _ rfl rfl rfl rfl) rfl rfl ?_
        refine gd_skip (.not _ _ _ _ rfl rfl rfl rfl) rfl rfl ?_
        refine gd_skip (.not _ _ _ _ rfl rfl rfl rfl) rfl rfl ?_
        refine gd_skip (.not _ _ _ _ rfl rfl rfl rfl) rfl rfl ?_
        refine gd_skip (.not _ _ _ _ rfl rfl rfl rfl) rfl rfl ?_
        refine gd_v (.free rfl) rfl rfl (qt_pick_f rfl rfl rfl) ?_
        refine gd_nil ?_
        refine gk_then (hK13 _ _ ?_)
        refine gc_cond_f rfl ?_
        refine gc_skip ?_
        refine gk_block ?_
        refine gk_then (hK12 _ _ ?_)
        refine gc_region ?_
        refine g_v (.free rfl) rfl rfl (qt_move rfl rfl) ?_
        refine g_v (.free rfl) rfl rfl (qt_add rfl rfl rfl (by omega)) ?_
        refine g_v (.free rfl) rfl rfl (qt_assign rfl rfl) ?_
        refine g_nil ?_
        rw [sol_f (fun h => hs5_24 ((sec_iff hS f0 f1 (g := (k : Int)) (by omega) (by omega)).2 h).2.1)]
        refine gk_then (gk_take 2 ?_)
        refine gk_sub ?hs_21 (hKL9 (k + 1, _, _) ?hi_21 ?hm_21)
        case hs_21 => exact (sub_cons rfl (sub_cons rfl (sub_cons rfl (sub_cons rfl (sub_cons rfl (sub_cons rfl sub_nil))))))
        case hi_21 => omega
        case hm_21 => omega
    · try simp only [decide_eq_true_eq, decide_eq_false_iff_not, Bool.not_eq_true', Bool.not_eq_false', Bool.not_eq_eq_eq_not, Bool.not_true, Bool.not_false, ne_eq, Decidable.not_not, Classical.not_not] at hs5_11
      refine gd_skip (.not _ _ _ _ rfl rfl rfl rfl) rfl rfl ?_
      refine gd_skip (.not _ _ _ _ rfl rfl rfl rfl) rfl rfl ?_
      refine gd_skip (.not _ _ _ _ rfl rfl rfl rfl) rfl rfl ?_
      refine gd_skip (.not _ _ _ _ rfl rfl rfl rfl) rfl rfl ?_
      refine gd_skip (.not _ _ _ _ rfl rfl rfl rfl) rfl rfl ?_
      refine gd_skip (.not _ _ _ _ rfl rfl rfl rfl) rfl rfl ?_
      refine gd_skip (.not _ _ _ _ rfl rfl rfl rfl) rfl rfl ?_
      refine gd_skip (.not _ _ _ _ rfl rfl rfl rfl) rfl rfl ?_
      refine gd_skip (.not _ _ _ _ rfl rfl rfl rfl) rfl rfl ?_
      refine gd_skip (.not _ _ _ _ rfl rfl rfl rfl) rfl rfl ?_
      refine gd_skip (.not _ _ _ _ rfl rfl rfl rfl) rfl rfl ?_
      refine gd_v (.free rfl) rfl rfl (qt_pick_f rfl rfl rfl) ?_
      refine gd_v (.free rfl) rfl rfl (qt_move rfl rfl) ?_
      refine gd_skip (.not _ _ _ _ rfl rfl rfl rfl) rfl rfl ?_
      refine gd_skip (.not _ _ _ _ rfl rfl rfl rfl) rfl rfl ?_
      refine gd_skip (.not _ _ _ _ rfl rfl rfl rfl) rfl rfl ?_
      refine gd_skip (.not _ _ _ _ rfl rfl rfl rfl) rfl rfl ?_
      refine gd_skip (.not _ _ _ _ rfl rfl rfl rfl) rfl rfl ?_
      refine gd_skip (.not _ _ _ _ rfl rfl rfl rfl) rfl rfl ?_
      refine gd_skip (.not _ _ _ _ rfl rfl rfl rfl) rfl rfl ?_
      refine gd_skip (.not _ _ _ _ rfl rfl rfl rfl) rfl rfl ?_
      refine gd_skip (.not _ _ _ _ rfl rfl rfl rfl) rfl rfl ?_
      refine gd_skip (.not _ _ _ _ rfl rfl rfl rfl) rfl rfl ?_
      refine gd_skip (.not _ _ _ _ rfl rfl rfl rfl) rfl rfl ?_
      refine gd_skip (.not _ _ _ _ rfl rfl rfl rfl) rfl rfl ?_
      refine gd_skip (.not _ _ _ _ rfl rfl rfl rfl) rfl rfl ?_
      refine gd_skip (.not _ _ _ _ rfl rfl rfl rfl) rfl rfl ?_
      refine gd_skip (.not _ _ _ _ rfl rfl rfl rfl) rfl rfl ?_
      refine gd_skip (.not _ _ _ _ rfl rfl rfl rfl) rfl rfl ?_
      refine gd_skip (.not _ _ _ _ rfl rfl rfl rfl) rfl rfl ?_
      refine gd_skip (.not _ _ _ _ rfl rfl rfl rfl) rfl rfl ?_
      refine gd_v (.free rfl) rfl rfl (qt_pick_f rfl rfl rfl) ?_
      refine gd_nil ?_
      refine gk_then (hK13 _ _ ?_)
      refine gc_cond_f rfl ?_
      refine gc_skip ?_
      refine gk_block ?_
      refine gk_then (hK12 _ _ ?_)
      refine gc_region ?_
      refine g_v (.free rfl) rfl rfl (qt_move rfl rfl) ?_
      refine g_v (.free rfl) rfl rfl (qt_add rfl rfl rfl (by omega)) ?_
      refine g_v (.free rfl) rfl rfl (qt_assign rfl rfl) ?_
      refine g_nil ?_
      rw [sol_f (fun h => hs5_11 ((sec_iff hS f0 f1 (g := (k : Int)) (by omega) (by omega)).2 h).1)]
      refine gk_then (gk_take 2 ?_)
      refine gk_sub ?hs_22 (hKL9 (k + 1, _, _) ?hi_22 ?hm_22)
      case hs_22 => exact (sub_cons rfl (sub_cons rfl (sub_cons rfl (sub_cons rfl (sub_cons rfl (sub_cons rfl sub_nil))))))
      case hi_22 => omega
      case hm_22 => omega
  · try simp only [decide_eq_true_eq, decide_eq_false_iff_not, Bool.not_eq_true', Bool.not_eq_false', Bool.not_eq_eq_eq_not, Bool.not_true, Bool.not_false, ne_eq, Decidable.not_not, Classical.not_not] at hc0
    refine gc_exit ?_
    refine gk_then_exit ?_
    refine gk_then_exit ?_
    refine gk_block_hit ?_
    refine gk_then (hK7 _ _ ?_)
    refine gc_seq fun K23 hK23 => ?_
    refine gc_region ?_
    refine g_v (.free rfl) rfl rfl (qt_move rfl rfl) ?_
    refine g_v (.free rfl) rfl rfl (qt_assign rfl rfl) ?_
    refine g_nil ?_
    refine gk_then (hK23 _ _ ?_)
    refine gc_ret ?_
    refine ret_1 rfl rfl  (fun w M => ?_)
    obtain rfl : k = c.s.length := by omega
    exact ⟨_, rfl, mem_own1 (n := 1) M rfl, M.1⟩

set_option maxHeartbeats 1000000 in
set_option maxRecDepth 100000 in
theorem specInv5_any (w : World) (v : Value) (c : Cat) (f : Int) (h : RdC w v c) (hC : IsCat c) (f0 : 0 ≤ f) (f1 : f < c.s.length) :
    Calls Try.prog 102 #[v, .int .i64 f] w (RetI w (invN c f)) := by
  have h0 := h
  obtain ⟨va, vb, vc, vd, ve, vf, vg, vh, rfl, h1, h2, h3, h4, _⟩ := h.lists
  have hS := hC.toShapeP
  have hf := arrP hS f0 f1
  have e1 := hf.fs; have e2 := hf.ft; have e3 := hf.fm; have e4 := hf.s0; have e5 := hf.s1; have e6 := hf.t0; have e7 := hf.t1; have e8 := hf.row
  have hn40 := hS.n40; have htl := hS.tl; have hel := hS.el
  have hrl := sol_len (beh c f) (at0 c.e (at0 c.s f)) c.s.length
  rw [show solL (beh c f) (at0 c.e (at0 c.s f)) c.s.length = retL c f from rfl] at hrl
  go_enter Try.func102, Try.ntmps102
  refine gc_enter (N := 30) rfl (look_cons (k := 0) rfl (look_cons (k := 1) rfl (look_nil _))) ?_
  refine gc_seq fun K1 hK1 => ?_
  refine gc_region ?_
  refine g_op (.free rfl) fun K3 hK3 => ?_
  refine go_box rfl rfl rfl rfl rfl ?_
  intro B2
  refine hK3 _ _ ?_
  refine g_v (.free rfl) rfl rfl (qt_assign rfl rfl) ?_
  refine g_nil ?_
  refine gk_then (hK1 _ _ ?_)
  refine gc_seq fun K4 hK4 => ?_
  try simp only [List.nil_append, List.cons_append, List.append_assoc, List.set_cons_succ, List.set_cons_zero]
  refine gc_cut ([(0, _), (1, _), (2, _), (4, _)] : Env) (fun s : (Option Addr) × Nat × (Option Addr) × Nat => (fun (a1 : Option Addr) (q1 : Nat) (a2 : Option Addr) (q2 : Nat) => ([(5, .slice a1 (retL c f).length q1), (6, .slice a2 (secL c f).length q2)] : Env)) s.1 s.2.1 s.2.2.1 s.2.2.2) (fun s : (Option Addr) × Nat × (Option Addr) × Nat => (fun (a1 : Option Addr) (q1 : Nat) (a2 : Option Addr) (q2 : Nat) => ([] : List (Nat × Itm))) s.1 s.2.1 s.2.2.1 s.2.2.2) (fun s : (Option Addr) × Nat × (Option Addr) × Nat => (fun (a1 : Option Addr) (q1 : Nat) (a2 : Option Addr) (q2 : Nat) => ([own1I (.slice a1 (retL c f).length q1) (retL c f), own1I (.slice a2 (secL c f).length q2) (secL c f)] : List Itm)) s.1 s.2.1 s.2.2.1 s.2.2.2) (sub_cons rfl (sub_cons rfl (sub_cons rfl (sub_cons rfl sub_nil)))) ?_ (fun HJ5 => ?_)
  · rintro ⟨a1, q1, a2, q2⟩
    simp only [updL, List.foldl_cons, List.foldl_nil, List.set_cons_succ, List.set_cons_zero, List.cons_append, List.nil_append]
    refine gk_then (hK4 _ _ ?_)
    refine gc_seq fun K6 hK6 => ?_
    refine gc_seq fun K7 hK7 => ?_
    refine gc_region ?_
    refine g_v (.free rfl) rfl rfl (qt_assign rfl rfl) ?_
    refine g_nil ?_
    refine gk_then (hK7 _ _ ?_)
    refine gc_block ?_
    try simp only [List.nil_append, List.cons_append, List.append_assoc, List.set_cons_succ, List.set_cons_zero]
    refine gc_loop ([(0, _), (1, _), (2, _), (5, _), (6, _)] : Env) (fun s : Nat => (fun (k : Nat) => ([(7, .int .i64 (k : Int))] : Env)) s) (fun s : Nat => (fun (k : Nat) => ([] : List (Nat × Itm))) s) (fun s : Nat => (fun (k : Nat) => k ≤ (retL c f).length ∧ ∀ j : Nat, j < k → ¬ at0 (retL c f) (j : Int) ∈ secL c f) s) (fun s : Nat => (fun (k : Nat) => (retL c f).length - k) s) (0) (sub_cons rfl (sub_cons rfl (sub_cons rfl (sub_cons rfl (sub_cons rfl (sub_cons rfl sub_nil)))))) rfl ⟨Nat.zero_le _, fun j hj => absurd hj (by omega)⟩ ?_
    rintro k hinv KL8 hKL8
    simp only [updL, List.foldl_cons, List.foldl_nil, List.set_cons_succ, List.set_cons_zero, List.cons_append, List.nil_append] at hinv hKL8 ⊢
    obtain ⟨hk, hno⟩ := hinv
    refine gc_seq fun K9 hK9 => ?_
    refine gc_seq fun K10 hK10 => ?_
    refine gc_region ?_
    refine g_v (.free rfl) rfl rfl (qt_move rfl rfl) ?_
    refine g_v (.free rfl) rfl rfl (qt_move rfl rfl) ?_
    refine g_v (.free rfl) rfl rfl (qt_len rfl rfl ulE1 (fun w M => lenV_own1 (n := 1) rfl M)) ?_
    refine g_v (.free rfl) rfl rfl (qt_lss rfl rfl rfl) ?_
    refine g_nil ?_
    refine gk_then (hK10 _ _ ?_)
    refine gc_cond rfl (fun hc0 => ?_) (fun hc0 => ?_)
    · try simp only [decide_eq_true_eq, decide_eq_false_iff_not, Bool.not_eq_true', Bool.not_eq_false', Bool.not_eq_eq_eq_not, Bool.not_true, Bool.not_false, ne_eq, Decidable.not_not, Classical.not_not] at hc0
      refine gc_skip ?_
      refine gk_then (hK9 _ _ ?_)
      refine gc_seq fun K11 hK11 => ?_
      refine gc_block ?_
      refine gc_seq fun K12 hK12 => ?_
      refine gc_region ?_
      refine g_v (.free rfl) rfl rfl (qt_move rfl rfl) ?_
      refine g_v (.free rfl) rfl rfl (qt_move rfl rfl) ?_
      refine g_v (.free rfl) rfl rfl (qt_move rfl rfl) ?_
      refine g_v (.free rfl) rfl rfl (qt_index rfl rfl rfl ulE1 szE1 (fun w M => lenA_own1 (n := 1) rfl M) (by omega) (by omega)) ?_
      refine g_v (.free rfl) rfl rfl (qt_load1 rfl rfl Try.underlying2 rfl (fun w M => (mem_own1 (n := 1) M rfl).rd) (by omega) (by omega)) ?_
      refine g_q (.free rfl) rfl rfl (qt_call rfl Try.func151 rfl (by decide) rfl (fun w M => has5_any w _ _ _ ((mem_own1 (n := 2) M rfl).rd))) ?_
      refine g_nil ?_
      refine gk_then (hK12 _ _ ?_)
      refine gc_cond rfl (fun hc1 => ?_) (fun hc1 => ?_)
      · try simp only [decide_eq_true_eq, decide_eq_false_iff_not, Bool.not_eq_true', Bool.not_eq_false', Bool.not_eq_eq_eq_not, Bool.not_true, Bool.not_false, ne_eq, Decidable.not_not, Classical.not_not] at hc1
        refine gc_seq fun K13 hK13 => ?_
        refine gc_region ?_
        refine g_v (.free rfl) rfl rfl (qt_move rfl rfl) ?_
        refine g_v (.free rfl) rfl rfl (qt_move rfl rfl) ?_
        refine g_v (.free rfl) rfl rfl (qt_index rfl rfl rfl ulE1 szE1 (fun w M => lenA_own1 (n := 1) rfl M) (by omega) (by omega)) ?_
        refine g_v (.free rfl) rfl rfl (qt_load1 rfl rfl Try.underlying2 rfl (fun w M => (mem_own1 (n := 1) M rfl).rd) (by omega) (by omega)) ?_
        refine g_v (.free rfl) rfl rfl (qt_assign rfl rfl) ?_
        refine g_nil ?_
        refine gk_then (hK13 _ _ ?_)
        refine gc_ret ?_
        refine gk_block_ret ?_
        refine gk_then_ret ?_
        refine gk_then_ret ?_
        refine gk_block_ret ?_
        refine gk_then_ret ?_
        refine ret_1 rfl rfl  (fun w M => ?_)
        rw [invN_found hC f0 f1 (k := k) (by omega) hc1]; exact ⟨rfl, M.1⟩
      · try simp only [decide_eq_true_eq, decide_eq_false_iff_not, Bool.not_eq_true', Bool.not_eq_false', Bool.not_eq_eq_eq_not, Bool.not_true, Bool.not_false, ne_eq, Decidable.not_not, Classical.not_not] at hc1
        refine gc_skip ?_
        refine gk_block ?_
        refine gk_then (hK11 _ _ ?_)
        refine gc_region ?_
        refine g_v (.free rfl) rfl rfl (qt_move rfl rfl) ?_
        refine g_v (.free rfl) rfl rfl (qt_add rfl rfl rfl (by omega)) ?_
        refine g_v (.free rfl) rfl rfl (qt_assign rfl rfl) ?_
        refine g_nil ?_
        refine gk_then (gk_take 3 ?_)
        refine gk_sub ?hs_14 (hKL8 (k + 1) ?hi_14 ?hm_14)
        case hs_14 => exact (sub_cons rfl (sub_cons rfl (sub_cons rfl (sub_cons rfl (sub_cons rfl (sub_cons rfl sub_nil))))))
        case hi_14 => exact ⟨by omega, all_next hno hc1⟩
        case hm_14 => omega
    · try simp only [decide_eq_true_eq, decide_eq_false_iff_not, Bool.not_eq_true', Bool.not_eq_false', Bool.not_eq_eq_eq_not, Bool.not_true, Bool.not_false, ne_eq, Decidable.not_not, Classical.not_not] at hc0
      refine gc_exit ?_
      refine gk_then_exit ?_
      refine gk_then_exit ?_
      refine gk_block_hit ?_
      refine gk_then (hK6 _ _ ?_)
      refine gc_seq fun K15 hK15 => ?_
      refine gc_region ?_
      refine g_v (.free rfl) rfl rfl (qt_assign rfl rfl) ?_
      refine g_nil ?_
      refine gk_then (hK15 _ _ ?_)
      refine gc_ret ?_
      refine ret_1 rfl rfl  (fun w M => ?_)
      obtain rfl : k = (retL c f).length := by omega
      rw [invN_none hno]; exact ⟨rfl, M.1⟩
  simp only [updL, List.foldl_cons, List.foldl_nil, List.set_cons_succ, List.set_cons_zero, List.cons_append, List.nil_append] at HJ5
  refine ga_start _ (fun w M => M) ?_
  refine ga_v 0 rfl (by kernel_rfl) (by kernel_rfl) (by kernel_rfl) (.free rfl) rfl rfl (qt_loadS (n := 0) rfl rfl Try.underlying29 rfl (by kernel_rfl) rfl) (fun _ _ _ h => h) ?_
  refine ga_v 1 rfl (by kernel_rfl) (by kernel_rfl) (by kernel_rfl) (.free rfl) rfl rfl (qt_move rfl rfl) (fun _ _ _ h => h) ?_
  refine ga_v 3 rfl (by kernel_rfl) (by kernel_rfl) (by kernel_rfl) (.free rfl) rfl rfl (qt_loadS (n := 0) rfl rfl Try.underlying29 rfl (by kernel_rfl) rfl) (fun _ _ _ h => h) ?_
  refine ga_v 4 rfl (by kernel_rfl) (by kernel_rfl) (by kernel_rfl) (.free rfl) rfl rfl (qt_move rfl rfl) (fun _ _ _ h => h) ?_
  refine ga_op 2 (by kernel_rfl) rfl (.free rfl) fun K17 hK17 => ?_
  refine go_callL rfl rfl rfl Try.func149 rfl (by decide) rfl (fun w M => specRet_any w _ _ _ (mem_rdC M h0) (by first | assumption | omega) (by first | assumption | omega) (by first | assumption | omega)) ?_
  intro va16 vc16
  refine hK17 _ _ (fun w M => (mem_take 1 M :)) ?_
  refine ga_op 5 (by kernel_rfl) rfl (.free rfl) fun K19 hK19 => ?_
  refine go_callL rfl rfl rfl Try.func150 rfl (by decide) rfl (fun w M => specSec_any w _ _ _ (mem_rdC M h0) (by first | assumption | omega) (by first | assumption | omega) (by first | assumption | omega)) ?_
  intro va18 vc18
  refine hK19 _ _ (fun w M => (mem_take 1 M :)) ?_
  refine ga_v 6 rfl (by kernel_rfl) (by kernel_rfl) (by kernel_rfl) (.free rfl) rfl rfl (qt_assign rfl rfl) (fun _ _ _ h => h) ?_
  refine ga_v 7 rfl (by kernel_rfl) (by kernel_rfl) (by kernel_rfl) (.free rfl) rfl rfl (qt_assign rfl rfl) (fun _ _ _ h => h) ?_
  refine ga_done (by kernel_rfl) ?_
  refine gk_pickL [0, 0, 0] ?_
  refine gk_sub ?hs_20 (HJ5 (_, _, _, _))
  case hs_20 => exact (sub_cons rfl (sub_cons rfl (sub_cons rfl (sub_cons rfl (sub_cons rfl (sub_cons rfl sub_nil))))))

end Go.Proofs.Ytloaikmiofdhnab
