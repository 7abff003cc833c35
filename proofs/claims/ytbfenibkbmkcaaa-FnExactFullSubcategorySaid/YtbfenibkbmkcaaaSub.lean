
/- Places in lists; lists that rise; the arrows between some objects: the model's and the program's. -/
import Derived.Test.YtbfenibkbmkcaaaHomL
import Derived.Test.YtbfenibkbmkcaaaRul7
set_option linter.unusedSimpArgs false
set_option linter.unusedVariables false
set_option linter.unusedSectionVars false
namespace Go.Proofs.Ytbfenibkbmkcaaa
open Go.RowKit


theorem idxI_t {xs : List Int} {x : Int} {k : Nat} (hk : k < xs.length) (h : at0 xs k = x) (hno : ∀ j : Nat, j < k → ¬ at0 xs j = x) : idxI xs x = k := by
  rw [at0_nat] at h
  rw [idxI, if_pos (mem_of_getD hk h), idx_hit hk h fun j hj e => hno j hj (by rw [at0_nat]; exact e)]
theorem idxI_f {xs : List Int} {x : Int} (hno : ∀ j : Nat, j < xs.length → ¬ at0 xs j = x) : x ∉ xs := not_mem_of fun j hj e => hno j hj (by rw [at0_nat]; exact e)
theorem idxI_neg {xs : List Int} {x : Int} (h : x ∉ xs) : idxI xs x = -1 := by rw [idxI, if_neg h]
theorem idxI_0 {xs : List Int} {x : Int} : 0 ≤ idxI xs x ↔ x ∈ xs := by
  unfold idxI
  split
  · next h => exact ⟨fun _ => h, fun _ => by omega⟩
  · next h => exact ⟨fun h2 => by omega, fun h2 => absurd h2 h⟩
def risesTo (xs : List Int) (k : Nat) : Prop := ∀ j : Nat, 1 ≤ j → j < k → at0 xs ((j : Int) - 1) < at0 xs (j : Int)
theorem rises_next {xs : List Int} {k : Nat} (h : risesTo xs k) (hn : at0 xs ((k : Int) - 1) < at0 xs (k : Int)) : risesTo xs (k + 1) := fun j h1 h2 => by
  rcases Nat.lt_or_ge j k with h3 | h3
  · exact h j h1 h3
  · obtain rfl : j = k := by omega
    exact hn
theorem rises_mono {xs : List Int} {k : Nat} (h : risesTo xs k) (hk : xs.length ≤ k) : risesTo xs xs.length := fun j h1 h2 => h j h1 (by omega)
def betw (c : Cat) (xs : List Int) (f : Nat) : Prop := at0 c.s f ∈ xs ∧ at0 c.t f ∈ xs
noncomputable def fullL (c : Cat) (xs : List Int) (k : Nat) : List Int := ((List.range k).filter fun f => bP (betw c xs f)).map fun (f : Nat) => (f : Int)
theorem fullL_len (c : Cat) (xs : List Int) (k : Nat) : (fullL c xs k).length ≤ k := by
  simp only [fullL, List.length_map]; exact Nat.le_trans (List.length_filter_le _ _) (by simp)
theorem fullL_t {c : Cat} {xs : List Int} {k : Nat} (h : betw c xs k) : fullL c xs k ++ [(k : Int)] = fullL c xs (k + 1) := by
  simp [fullL, List.range_succ, bP_t h]
theorem fullL_f {c : Cat} {xs : List Int} {k : Nat} (h : ¬ betw c xs k) : fullL c xs k = fullL c xs (k + 1) := by
  simp [fullL, List.range_succ, bP_f h]

set_option maxHeartbeats 1000000 in
set_option maxRecDepth 100000 in
theorem specHas2_any (w : World) (u : Value) (xs : List Int) (x : Int) (hu : Rd w u xs) :
    Calls Try.prog 105 #[u, .int .i64 x] w (RetB w (bP (x ∈ xs))) := by
  obtain ⟨ua, uc, rfl⟩ := rd_form hu
  have hux : xs.length ≤ 17592186044415 := by obtain ⟨_, _, _, hl, _⟩ := hu; exact hl
  go_enter Try.func105, Try.ntmps105
  refine gc_enter (N := 18) rfl (look_cons (k := 0) rfl (look_cons (k := 1) rfl (look_nil _))) ?_
  refine gc_seq fun K1 hK1 => ?_
  refine gc_region ?_
  refine g_v (.free rfl) rfl rfl (qt_assign rfl rfl) ?_
  refine g_nil ?_
  refine gk_then (hK1 _ _ ?_)
  refine gc_seq fun K2 hK2 => ?_
  refine gc_seq fun K3 hK3 => ?_
  refine gc_region ?_
  refine g_v (.free rfl) rfl rfl (qt_assign rfl rfl) ?_
  refine g_nil ?_
  refine gk_then (hK3 _ _ ?_)
  refine gc_block ?_
  try simp only [List.nil_append, List.cons_append, List.append_assoc, List.set_cons_succ, List.set_cons_zero]
  refine gc_loop ([(0, _), (1, _)] : Env) (fun s : Nat => (fun (k : Nat) => ([(5, .int .i64 (k : Int))] : Env)) s) (fun s : Nat => (fun (k : Nat) => ([] : List (Nat × Itm))) s) (fun s : Nat => (fun (k : Nat) => k ≤ xs.length ∧ ∀ j : Nat, j < k → ¬ at0 xs j = x) s) (fun s : Nat => (fun (k : Nat) => xs.length - k) s) (0) (sub_cons rfl (sub_cons rfl (sub_cons rfl sub_nil))) rfl ⟨Nat.zero_le _, fun f hf => absurd hf (by omega)⟩ ?_
  rintro k hinv KL4 hKL4
  simp only [updL, List.foldl_cons, List.foldl_nil, List.set_cons_succ, List.set_cons_zero, List.cons_append, List.nil_append] at hinv hKL4 ⊢
  obtain ⟨hk, hno⟩ := hinv
  refine gc_seq fun K5 hK5 => ?_
  refine gc_seq fun K6 hK6 => ?_
  refine gc_region ?_
  refine g_v (.free rfl) rfl rfl (qt_move rfl rfl) ?_
  refine g_v (.free rfl) rfl rfl (qt_move rfl rfl) ?_
  refine g_v (.free rfl) rfl rfl (qt_len rfl rfl ulE1 (fun w M => lenV_rd hu)) ?_
  refine g_v (.free rfl) rfl rfl (qt_lss rfl rfl rfl) ?_
  refine g_nil ?_
  refine gk_then (hK6 _ _ ?_)
  refine gc_cond rfl (fun hc0 => ?_) (fun hc0 => ?_)
  · try simp only [decide_eq_true_eq, decide_eq_false_iff_not, Bool.not_eq_true', Bool.not_eq_false', Bool.not_eq_eq_eq_not, Bool.not_true, Bool.not_false, ne_eq, Decidable.not_not, Classical.not_not] at hc0
    refine gc_skip ?_
    refine gk_then (hK5 _ _ ?_)
    refine gc_seq fun K7 hK7 => ?_
    refine gc_block ?_
    refine gc_seq fun K8 hK8 => ?_
    refine gc_region ?_
    refine g_v (.free rfl) rfl rfl (qt_move rfl rfl) ?_
    refine g_v (.free rfl) rfl rfl (qt_move rfl rfl) ?_
    refine g_v (.free rfl) rfl rfl (qt_index rfl rfl rfl ulE1 szE1 (fun w M => lenA_rd hu) (by omega) (by omega)) ?_
    refine g_v (.free rfl) rfl rfl (qt_load1 rfl rfl Try.underlying2 rfl (fun w M => mem_rd M hu) (by omega) (by omega)) ?_
    refine g_v (.free rfl) rfl rfl (qt_move rfl rfl) ?_
    refine g_v (.free rfl) rfl rfl (qt_eql rfl rfl rfl) ?_
    refine g_nil ?_
    refine gk_then (hK8 _ _ ?_)
    refine gc_cond rfl (fun hc1 => ?_) (fun hc1 => ?_)
    · try simp only [decide_eq_true_eq, decide_eq_false_iff_not, Bool.not_eq_true', Bool.not_eq_false', Bool.not_eq_eq_eq_not, Bool.not_true, Bool.not_false, ne_eq, Decidable.not_not, Classical.not_not] at hc1
      refine gc_seq fun K9 hK9 => ?_
      refine gc_region ?_
      refine g_v (.free rfl) rfl rfl (qt_assign rfl rfl) ?_
      refine g_nil ?_
      refine gk_then (hK9 _ _ ?_)
      refine gc_ret ?_
      refine gk_block_ret ?_
      refine gk_then_ret ?_
      refine gk_then_ret ?_
      refine gk_block_ret ?_
      refine gk_then_ret ?_
      refine ret_1 rfl rfl  (fun w M => ?_)
      rw [bP_t (show x ∈ xs from mem_of_getD (k := k) (by omega) (by rw [← at0_nat]; exact hc1))]; exact ⟨rfl, M.1⟩
    · try simp only [decide_eq_true_eq, decide_eq_false_iff_not, Bool.not_eq_true', Bool.not_eq_false', Bool.not_eq_eq_eq_not, Bool.not_true, Bool.not_false, ne_eq, Decidable.not_not, Classical.not_not] at hc1
      refine gc_skip ?_
      refine gk_block ?_
      refine gk_then (hK7 _ _ ?_)
      refine gc_region ?_
      refine g_v (.free rfl) rfl rfl (qt_move rfl rfl) ?_
      refine g_v (.free rfl) rfl rfl (qt_add rfl rfl rfl (by omega)) ?_
      refine g_v (.free rfl) rfl rfl (qt_assign rfl rfl) ?_
      refine g_nil ?_
      refine gk_then (gk_take 0 ?_)
      refine gk_sub ?hs_10 (hKL4 (k + 1) ?hi_10 ?hm_10)
      case hs_10 => exact (sub_cons rfl (sub_cons rfl (sub_cons rfl sub_nil)))
      case hi_10 => exact ⟨by omega, all_next hno hc1⟩
      case hm_10 => omega
  · try simp only [decide_eq_true_eq, decide_eq_false_iff_not, Bool.not_eq_true', Bool.not_eq_false', Bool.not_eq_eq_eq_not, Bool.not_true, Bool.not_false, ne_eq, Decidable.not_not, Classical.not_not] at hc0
    refine gc_exit ?_
    refine gk_then_exit ?_
    refine gk_then_exit ?_
    refine gk_block_hit ?_
    refine gk_then (hK2 _ _ ?_)
    refine gc_seq fun K11 hK11 => ?_
    refine gc_region ?_
    refine g_v (.free rfl) rfl rfl (qt_assign rfl rfl) ?_
    refine g_nil ?_
    refine gk_then (hK11 _ _ ?_)
    refine gc_ret ?_
    refine ret_1 rfl rfl  (fun w M => ?_)
    obtain rfl : k = xs.length := by omega
    rw [bP_f (idxI_f hno)]; exact ⟨rfl, M.1⟩

set_option maxHeartbeats 1000000 in
set_option maxRecDepth 100000 in
theorem libIndex2_any (w : World) (u : Value) (xs : List Int) (x : Int) (hu : Rd w u xs) :
    Calls Try.prog 107 #[u, .int .i64 x] w (RetI w (idxI xs x)) := by
  obtain ⟨ua, uc, rfl⟩ := rd_form hu
  have hux : xs.length ≤ 17592186044415 := by obtain ⟨_, _, _, hl, _⟩ := hu; exact hl
  go_enter Try.func107, Try.ntmps107
  refine gc_enter (N := 19) rfl (look_cons (k := 0) rfl (look_cons (k := 1) rfl (look_nil _))) ?_
  refine gc_seq fun K1 hK1 => ?_
  refine gc_region ?_
  refine g_v (.free rfl) rfl rfl (qt_assign rfl rfl) ?_
  refine g_nil ?_
  refine gk_then (hK1 _ _ ?_)
  refine gc_seq fun K2 hK2 => ?_
  refine gc_seq fun K3 hK3 => ?_
  refine gc_region ?_
  refine g_v (.free rfl) rfl rfl (qt_move rfl rfl) ?_
  refine g_v (.free rfl) rfl rfl (qt_len rfl rfl ulE1 (fun w M => lenV_rd hu)) ?_
  refine g_v (.free rfl) rfl rfl (qt_move rfl rfl) ?_
  refine g_nil ?_
  refine gk_then (hK3 _ _ ?_)
  refine gc_block ?_
  try simp only [List.nil_append, List.cons_append, List.append_assoc, List.set_cons_succ, List.set_cons_zero]
  refine gc_loop ([(0, _), (1, _), (7, _)] : Env) (fun s : Nat => (fun (k : Nat) => ([(8, .int .i64 (k : Int))] : Env)) s) (fun s : Nat => (fun (k : Nat) => ([] : List (Nat × Itm))) s) (fun s : Nat => (fun (k : Nat) => k ≤ xs.length ∧ ∀ j : Nat, j < k → ¬ at0 xs j = x) s) (fun s : Nat => (fun (k : Nat) => xs.length - k) s) (0) (sub_cons rfl (sub_cons rfl (sub_cons rfl (sub_cons rfl sub_nil)))) rfl ⟨Nat.zero_le _, fun f hf => absurd hf (by omega)⟩ ?_
  rintro k hinv KL4 hKL4
  simp only [updL, List.foldl_cons, List.foldl_nil, List.set_cons_succ, List.set_cons_zero, List.cons_append, List.nil_append] at hinv hKL4 ⊢
  obtain ⟨hk, hno⟩ := hinv
  refine gc_seq fun K5 hK5 => ?_
  refine gc_region ?_
  refine g_v (.free rfl) rfl rfl (qt_lss rfl rfl rfl) ?_
  refine g_nil ?_
  refine gk_then (hK5 _ _ ?_)
  refine gc_seq fun K6 hK6 => ?_
  refine gc_cond rfl (fun hc0 => ?_) (fun hc0 => ?_)
  · try simp only [decide_eq_true_eq, decide_eq_false_iff_not, Bool.not_eq_true', Bool.not_eq_false', Bool.not_eq_eq_eq_not, Bool.not_true, Bool.not_false, ne_eq, Decidable.not_not, Classical.not_not] at hc0
    refine gc_skip ?_
    refine gk_then (hK6 _ _ ?_)
    refine gc_seq fun K7 hK7 => ?_
    refine gc_block ?_
    refine gc_seq fun K8 hK8 => ?_
    refine gc_region ?_
    refine g_v (.free rfl) rfl rfl (qt_move rfl rfl) ?_
    refine g_v (.free rfl) rfl rfl (qt_assign rfl rfl) ?_
    refine g_nil ?_
    refine gk_then (hK8 _ _ ?_)
    refine gc_seq fun K9 hK9 => ?_
    refine gc_region ?_
    refine g_v (.free rfl) rfl rfl (qt_move rfl rfl) ?_
    refine g_v (.free rfl) rfl rfl (qt_move rfl rfl) ?_
    refine g_v (.free rfl) rfl rfl (qt_move rfl rfl) ?_
    refine g_v (.free rfl) rfl rfl (qt_index rfl rfl rfl ulE1 szE1 (fun w M => lenA_rd hu) (by omega) (by omega)) ?_
    refine g_v (.free rfl) rfl rfl (qt_load1 rfl rfl Try.underlying2 rfl (fun w M => mem_rd M hu) (by omega) (by omega)) ?_
    refine g_v (.free rfl) rfl rfl (qt_eql rfl rfl rfl) ?_
    refine g_nil ?_
    refine gk_then (hK9 _ _ ?_)
    refine gc_cond rfl (fun hc1 => ?_) (fun hc1 => ?_)
    · try simp only [decide_eq_true_eq, decide_eq_false_iff_not, Bool.not_eq_true', Bool.not_eq_false', Bool.not_eq_eq_eq_not, Bool.not_true, Bool.not_false, ne_eq, Decidable.not_not, Classical.not_not] at hc1
      refine gc_seq fun K10 hK10 => ?_
      refine gc_region ?_
      refine g_v (.free rfl) rfl rfl (qt_move rfl rfl) ?_
      refine g_v (.free rfl) rfl rfl (qt_assign rfl rfl) ?_
      refine g_nil ?_
      refine gk_then (hK10 _ _ ?_)
      refine gc_ret ?_
      refine gk_block_ret ?_
      refine gk_then_ret ?_
      refine gk_then_ret ?_
      refine gk_block_ret ?_
      refine gk_then_ret ?_
      refine ret_1 rfl rfl  (fun w M => ?_)
      rw [idxI_t (by omega) hc1.symm hno]; exact ⟨rfl, M.1⟩
    · try simp only [decide_eq_true_eq, decide_eq_false_iff_not, Bool.not_eq_true', Bool.not_eq_false', Bool.not_eq_eq_eq_not, Bool.not_true, Bool.not_false, ne_eq, Decidable.not_not, Classical.not_not] at hc1
      refine gc_skip ?_
      refine gk_block ?_
      refine gk_then (hK7 _ _ ?_)
      refine gc_region ?_
      refine g_v (.free rfl) rfl rfl (qt_add rfl rfl rfl (by omega)) ?_
      refine g_v (.free rfl) rfl rfl (qt_move rfl rfl) ?_
      refine g_nil ?_
      refine gk_then (gk_take 0 ?_)
      refine gk_sub ?hs_11 (hKL4 (k + 1) ?hi_11 ?hm_11)
      case hs_11 => exact (sub_cons rfl (sub_cons rfl (sub_cons rfl (sub_cons rfl sub_nil))))
      case hi_11 => exact ⟨by omega, all_next hno fun h => hc1 h.symm⟩
      case hm_11 => omega
  · try simp only [decide_eq_true_eq, decide_eq_false_iff_not, Bool.not_eq_true', Bool.not_eq_false', Bool.not_eq_eq_eq_not, Bool.not_true, Bool.not_false, ne_eq, Decidable.not_not, Classical.not_not] at hc0
    refine gc_exit ?_
    refine gk_then_exit ?_
    refine gk_then_exit ?_
    refine gk_block_hit ?_
    refine gk_then (hK2 _ _ ?_)
    refine gc_seq fun K12 hK12 => ?_
    refine gc_region ?_
    refine g_v (.free rfl) rfl rfl (qt_assign rfl rfl) ?_
    refine g_nil ?_
    refine gk_then (hK12 _ _ ?_)
    refine gc_ret ?_
    refine ret_1 rfl rfl  (fun w M => ?_)
    obtain rfl : k = xs.length := by omega
    rw [idxI_neg (idxI_f hno)]; exact ⟨rfl, M.1⟩

set_option maxHeartbeats 1000000 in
set_option maxRecDepth 100000 in
theorem placeIn_any (w : World) (u : Value) (xs : List Int) (x : Int) (hu : Rd w u xs) :
    Calls Try.prog 109 #[u, .int .i64 x] w (RetI w (idxI xs x)) := by
  obtain ⟨ua, uc, rfl⟩ := rd_form hu
  go_enter Try.func109, Try.ntmps109
  refine gc_enter (N := 8) rfl (look_cons (k := 0) rfl (look_cons (k := 1) rfl (look_nil _))) ?_
  refine gc_seq fun K1 hK1 => ?_
  refine gc_region ?_
  refine g_v (.free rfl) rfl rfl (qt_assign rfl rfl) ?_
  refine g_nil ?_
  refine gk_then (hK1 _ _ ?_)
  refine gc_seq fun K2 hK2 => ?_
  refine gc_region ?_
  refine g_v (.free rfl) rfl rfl (qt_move rfl rfl) ?_
  refine g_v (.free rfl) rfl rfl (qt_move rfl rfl) ?_
  refine g_q (.free rfl) rfl rfl (qt_call rfl Try.func107 rfl (by decide) rfl (fun w M => libIndex2_any w _ _ _ (mem_rd M hu))) ?_
  refine g_v (.free rfl) rfl rfl (qt_assign rfl rfl) ?_
  refine g_nil ?_
  refine gk_then (hK2 _ _ ?_)
  refine gc_ret ?_
  refine ret_1 rfl rfl  (fun w M => ?_)
  exact ⟨rfl, M.1⟩

set_option maxHeartbeats 1000000 in
set_option maxRecDepth 100000 in
theorem specRises_any (w : World) (u : Value) (xs : List Int) (hu : Rd w u xs) :
    Calls Try.prog 78 #[u] w (RetB w (bP (risesTo xs xs.length))) := by
  obtain ⟨ua, uc, rfl⟩ := rd_form hu
  have hux : xs.length ≤ 17592186044415 := by obtain ⟨_, _, _, hl, _⟩ := hu; exact hl
  go_enter Try.func78, Try.ntmps78
  refine gc_enter (N := 20) rfl (look_cons (k := 0) rfl (look_nil _)) ?_
  refine gc_seq fun K1 hK1 => ?_
  refine gc_region ?_
  refine g_v (.free rfl) rfl rfl (qt_assign rfl rfl) ?_
  refine g_nil ?_
  refine gk_then (hK1 _ _ ?_)
  refine gc_seq fun K2 hK2 => ?_
  refine gc_seq fun K3 hK3 => ?_
  refine gc_region ?_
  refine g_v (.free rfl) rfl rfl (qt_assign rfl rfl) ?_
  refine g_nil ?_
  refine gk_then (hK3 _ _ ?_)
  refine gc_block ?_
  try simp only [List.nil_append, List.cons_append, List.append_assoc, List.set_cons_succ, List.set_cons_zero]
  refine gc_loop ([(0, _)] : Env) (fun s : Nat => (fun (k : Nat) => ([(3, .int .i64 (k : Int))] : Env)) s) (fun s : Nat => (fun (k : Nat) => ([] : List (Nat × Itm))) s) (fun s : Nat => (fun (k : Nat) => 1 ≤ k ∧ (k ≤ xs.length ∨ k = 1) ∧ risesTo xs k) s) (fun s : Nat => (fun (k : Nat) => xs.length + 1 - k) s) (1) (sub_cons rfl (sub_cons rfl sub_nil)) rfl ⟨Nat.le_refl _, .inr rfl, fun j h1 h2 => absurd h2 (by omega)⟩ ?_
  rintro k hinv KL4 hKL4
  simp only [updL, List.foldl_cons, List.foldl_nil, List.set_cons_succ, List.set_cons_zero, List.cons_append, List.nil_append] at hinv hKL4 ⊢
  obtain ⟨hk1, hk, hr⟩ := hinv
  refine gc_seq fun K5 hK5 => ?_
  refine gc_seq fun K6 hK6 => ?_
  refine gc_region ?_
  refine g_v (.free rfl) rfl rfl (qt_move rfl rfl) ?_
  refine g_v (.free rfl) rfl rfl (qt_move rfl rfl) ?_
  refine g_v (.free rfl) rfl rfl (qt_len rfl rfl ulE1 (fun w M => lenV_rd hu)) ?_
  refine g_v (.free rfl) rfl rfl (qt_lss rfl rfl rfl) ?_
  refine g_nil ?_
  refine gk_then (hK6 _ _ ?_)
  refine gc_cond rfl (fun hc0 => ?_) (fun hc0 => ?_)
  · try simp only [decide_eq_true_eq, decide_eq_false_iff_not, Bool.not_eq_true', Bool.not_eq_false', Bool.not_eq_eq_eq_not, Bool.not_true, Bool.not_false, ne_eq, Decidable.not_not, Classical.not_not] at hc0
    refine gc_skip ?_
    refine gk_then (hK5 _ _ ?_)
    refine gc_seq fun K7 hK7 => ?_
    refine gc_block ?_
    refine gc_seq fun K8 hK8 => ?_
    refine gc_draw (by kernel_rfl) ?_
    refine gd_v (.free rfl) rfl rfl (qt_move rfl rfl) ?_
    refine gd_v (.free rfl) rfl rfl (qt_move rfl rfl) ?_
    refine gd_v (.free rfl) rfl rfl (qt_index rfl rfl rfl ulE1 szE1 (fun w M => lenA_rd hu) (by omega) (by omega)) ?_
    refine gd_v (.free rfl) rfl rfl (qt_load1 rfl rfl Try.underlying2 rfl (fun w M => mem_rd M hu) (by omega) (by omega)) ?_
    refine gd_v (.free rfl) rfl rfl (qt_move rfl rfl) ?_
    refine gd_v (.free rfl) rfl rfl (qt_move rfl rfl) ?_
    refine gd_v (.free rfl) rfl rfl (qt_sub rfl rfl rfl (by omega)) ?_
    refine gd_v (.free rfl) rfl rfl (qt_index rfl rfl rfl ulE1 szE1 (fun w M => lenA_rd hu) (by omega) (by omega)) ?_
    refine gd_v (.free rfl) rfl rfl (qt_load1 rfl rfl Try.underlying2 rfl (fun w M => mem_rd M hu) (by omega) (by omega)) ?_
    refine gd_v (.free rfl) rfl rfl (qt_leq rfl rfl rfl) ?_
    refine gd_nil ?_
    refine gk_then (hK8 _ _ ?_)
    refine gc_cond rfl (fun hc1 => ?_) (fun hc1 => ?_)
    · try simp only [decide_eq_true_eq, decide_eq_false_iff_not, Bool.not_eq_true', Bool.not_eq_false', Bool.not_eq_eq_eq_not, Bool.not_true, Bool.not_false, ne_eq, Decidable.not_not, Classical.not_not] at hc1
      refine gc_seq fun K9 hK9 => ?_
      refine gc_region ?_
      refine g_v (.free rfl) rfl rfl (qt_assign rfl rfl) ?_
      refine g_nil ?_
      refine gk_then (hK9 _ _ ?_)
      refine gc_ret ?_
      refine gk_block_ret ?_
      refine gk_then_ret ?_
      refine gk_then_ret ?_
      refine gk_block_ret ?_
      refine gk_then_ret ?_
      refine ret_1 rfl rfl  (fun w M => ?_)
      rw [bP_f fun h => by have := h k hk1 (by omega); omega]; exact ⟨rfl, M.1⟩
    · try simp only [decide_eq_true_eq, decide_eq_false_iff_not, Bool.not_eq_true', Bool.not_eq_false', Bool.not_eq_eq_eq_not, Bool.not_true, Bool.not_false, ne_eq, Decidable.not_not, Classical.not_not] at hc1
      refine gc_skip ?_
      refine gk_block ?_
      refine gk_then (hK7 _ _ ?_)
      refine gc_region ?_
      refine g_v (.free rfl) rfl rfl (qt_move rfl rfl) ?_
      refine g_v (.free rfl) rfl rfl (qt_add rfl rfl rfl (by omega)) ?_
      refine g_v (.free rfl) rfl rfl (qt_assign rfl rfl) ?_
      refine g_nil ?_
      refine gk_then (gk_take 0 ?_)
      refine gk_sub ?hs_10 (hKL4 (k + 1) ?hi_10 ?hm_10)
      case hs_10 => exact (sub_cons rfl (sub_cons rfl sub_nil))
      case hi_10 => exact ⟨by omega, by omega, rises_next hr (by omega)⟩
      case hm_10 => omega
  · try simp only [decide_eq_true_eq, decide_eq_false_iff_not, Bool.not_eq_true', Bool.not_eq_false', Bool.not_eq_eq_eq_not, Bool.not_true, Bool.not_false, ne_eq, Decidable.not_not, Classical.not_not] at hc0
    refine gc_exit ?_
    refine gk_then_exit ?_
    refine gk_then_exit ?_
    refine gk_block_hit ?_
    refine gk_then (hK2 _ _ ?_)
    refine gc_seq fun K11 hK11 => ?_
    refine gc_region ?_
    refine g_v (.free rfl) rfl rfl (qt_assign rfl rfl) ?_
    refine g_nil ?_
    refine gk_then (hK11 _ _ ?_)
    refine gc_ret ?_
    refine ret_1 rfl rfl  (fun w M => ?_)
    rw [bP_t (rises_mono hr (by omega))]; exact ⟨rfl, M.1⟩

set_option maxHeartbeats 1000000 in
set_option maxRecDepth 100000 in
theorem rises_any (w : World) (u : Value) (xs : List Int) (hu : Rd w u xs) :
    Calls Try.prog 82 #[u] w (RetB w (bP (risesTo xs xs.length))) := by
  obtain ⟨ua, uc, rfl⟩ := rd_form hu
  have hux : xs.length ≤ 17592186044415 := by obtain ⟨_, _, _, hl, _⟩ := hu; exact hl
  go_enter Try.func82, Try.ntmps82
  refine gc_enter (N := 20) rfl (look_cons (k := 0) rfl (look_nil _)) ?_
  refine gc_seq fun K1 hK1 => ?_
  refine gc_region ?_
  refine g_v (.free rfl) rfl rfl (qt_assign rfl rfl) ?_
  refine g_nil ?_
  refine gk_then (hK1 _ _ ?_)
  refine gc_seq fun K2 hK2 => ?_
  refine gc_seq fun K3 hK3 => ?_
  refine gc_region ?_
  refine g_v (.free rfl) rfl rfl (qt_assign rfl rfl) ?_
  refine g_nil ?_
  refine gk_then (hK3 _ _ ?_)
  refine gc_block ?_
  try simp only [List.nil_append, List.cons_append, List.append_assoc, List.set_cons_succ, List.set_cons_zero]
  refine gc_loop ([(0, _)] : Env) (fun s : Nat => (fun (k : Nat) => ([(3, .int .i64 (k : Int))] : Env)) s) (fun s : Nat => (fun (k : Nat) => ([] : List (Nat × Itm))) s) (fun s : Nat => (fun (k : Nat) => 1 ≤ k ∧ (k ≤ xs.length ∨ k = 1) ∧ risesTo xs k) s) (fun s : Nat => (fun (k : Nat) => xs.length + 1 - k) s) (1) (sub_cons rfl (sub_cons rfl sub_nil)) rfl ⟨Nat.le_refl _, .inr rfl, fun j h1 h2 => absurd h2 (by omega)⟩ ?_
  rintro k hinv KL4 hKL4
  simp only [updL, List.foldl_cons, List.foldl_nil, List.set_cons_succ, List.set_cons_zero, List.cons_append, List.nil_append] at hinv hKL4 ⊢
  obtain ⟨hk1, hk, hr⟩ := hinv
  refine gc_seq fun K5 hK5 => ?_
  refine gc_seq fun K6 hK6 => ?_
  refine gc_region ?_
  refine g_v (.free rfl) rfl rfl (qt_move rfl rfl) ?_
  refine g_v (.free rfl) rfl rfl (qt_move rfl rfl) ?_
  refine g_v (.free rfl) rfl rfl (qt_len rfl rfl ulE1 (fun w M => lenV_rd hu)) ?_
  refine g_v (.free rfl) rfl rfl (qt_lss rfl rfl rfl) ?_
  refine g_nil ?_
  refine gk_then (hK6 _ _ ?_)
  refine gc_cond rfl (fun hc0 => ?_) (fun hc0 => ?_)
  · try simp only [decide_eq_true_eq, decide_eq_false_iff_not, Bool.not_eq_true', Bool.not_eq_false', Bool.not_eq_eq_eq_not, Bool.not_true, Bool.not_false, ne_eq, Decidable.not_not, Classical.not_not] at hc0
    refine gc_skip ?_
    refine gk_then (hK5 _ _ ?_)
    refine gc_seq fun K7 hK7 => ?_
    refine gc_block ?_
    refine gc_seq fun K8 hK8 => ?_
    refine gc_draw (by kernel_rfl) ?_
    refine gd_v (.free rfl) rfl rfl (qt_move rfl rfl) ?_
    refine gd_v (.free rfl) rfl rfl (qt_move rfl rfl) ?_
    refine gd_v (.free rfl) rfl rfl (qt_sub rfl rfl rfl (by omega)) ?_
    refine gd_v (.free rfl) rfl rfl (qt_index rfl rfl rfl ulE1 szE1 (fun w M => lenA_rd hu) (by omega) (by omega)) ?_
    refine gd_v (.free rfl) rfl rfl (qt_load1 rfl rfl Try.underlying2 rfl (fun w M => mem_rd M hu) (by omega) (by omega)) ?_
    refine gd_v (.free rfl) rfl rfl (qt_move rfl rfl) ?_
    refine gd_v (.free rfl) rfl rfl (qt_move rfl rfl) ?_
    refine gd_v (.free rfl) rfl rfl (qt_index rfl rfl rfl ulE1 szE1 (fun w M => lenA_rd hu) (by omega) (by omega)) ?_
    refine gd_v (.free rfl) rfl rfl (qt_load1 rfl rfl Try.underlying2 rfl (fun w M => mem_rd M hu) (by omega) (by omega)) ?_
    refine gd_v (.free rfl) rfl rfl (qt_geq rfl rfl rfl) ?_
    refine gd_nil ?_
    refine gk_then (hK8 _ _ ?_)
    refine gc_cond rfl (fun hc1 => ?_) (fun hc1 => ?_)
    · try simp only [decide_eq_true_eq, decide_eq_false_iff_not, Bool.not_eq_true', Bool.not_eq_false', Bool.not_eq_eq_eq_not, Bool.not_true, Bool.not_false, ne_eq, Decidable.not_not, Classical.not_not] at hc1
      refine gc_seq fun K9 hK9 => ?_
      refine gc_region ?_
      refine g_v (.free rfl) rfl rfl (qt_assign rfl rfl) ?_
      refine g_nil ?_
      refine gk_then (hK9 _ _ ?_)
      refine gc_ret ?_
      refine gk_block_ret ?_
      refine gk_then_ret ?_
      refine gk_then_ret ?_
      refine gk_block_ret ?_
      refine gk_then_ret ?_
      refine ret_1 rfl rfl  (fun w M => ?_)
      rw [bP_f fun h => by have := h k hk1 (by omega); omega]; exact ⟨rfl, M.1⟩
    · try simp only [decide_eq_true_eq, decide_eq_false_iff_not, Bool.not_eq_true', Bool.not_eq_false', Bool.not_eq_eq_eq_not, Bool.not_true, Bool.not_false, ne_eq, Decidable.not_not, Classical.not_not] at hc1
      refine gc_skip ?_
      refine gk_block ?_
      refine gk_then (hK7 _ _ ?_)
      refine gc_region ?_
      refine g_v (.free rfl) rfl rfl (qt_move rfl rfl) ?_
      refine g_v (.free rfl) rfl rfl (qt_add rfl rfl rfl (by omega)) ?_
      refine g_v (.free rfl) rfl rfl (qt_assign rfl rfl) ?_
      refine g_nil ?_
      refine gk_then (gk_take 0 ?_)
      refine gk_sub ?hs_10 (hKL4 (k + 1) ?hi_10 ?hm_10)
      case hs_10 => exact (sub_cons rfl (sub_cons rfl sub_nil))
      case hi_10 => exact ⟨by omega, by omega, rises_next hr (by omega)⟩
      case hm_10 => omega
  · try simp only [decide_eq_true_eq, decide_eq_false_iff_not, Bool.not_eq_true', Bool.not_eq_false', Bool.not_eq_eq_eq_not, Bool.not_true, Bool.not_false, ne_eq, Decidable.not_not, Classical.not_not] at hc0
    refine gc_exit ?_
    refine gk_then_exit ?_
    refine gk_then_exit ?_
    refine gk_block_hit ?_
    refine gk_then (hK2 _ _ ?_)
    refine gc_seq fun K11 hK11 => ?_
    refine gc_region ?_
    refine g_v (.free rfl) rfl rfl (qt_assign rfl rfl) ?_
    refine g_nil ?_
    refine gk_then (hK11 _ _ ?_)
    refine gc_ret ?_
    refine ret_1 rfl rfl  (fun w M => ?_)
    rw [bP_t (rises_mono hr (by omega))]; exact ⟨rfl, M.1⟩

set_option maxHeartbeats 1000000 in
set_option maxRecDepth 100000 in
theorem specFull_any (w : World) (v u : Value) (c : Cat) (xs : List Int) (h : RdC w v c) (hS : ShapeP c) (hu : Rd w u xs) :
    Calls Try.prog 80 #[v, u] w (RetL w (fullL c xs c.s.length)) := by
  have h0 := h
  obtain ⟨va, vb, vc, vd, ve, vf, vg, vh, rfl, h1, h2, h3, h4, _⟩ := h.lists
  obtain ⟨ua, uc, rfl⟩ := rd_form hu
  have hn40 := hS.n40; have htl := hS.tl
  go_enter Try.func80, Try.ntmps80
  refine gc_enter (N := 36) rfl (look_cons (k := 0) rfl (look_cons (k := 1) rfl (look_nil _))) ?_
  refine gc_seq fun K1 hK1 => ?_
  refine gc_region ?_
  refine g_op (.free rfl) fun K3 hK3 => ?_
  refine go_box rfl rfl rfl rfl rfl ?_
  intro B2
  refine hK3 _ _ ?_
  refine g_v (.free rfl) rfl rfl (qt_assign rfl rfl) ?_
  refine g_nil ?_
  refine gk_then (hK1 _ _ ?_)
  refine gc_seq fun K4 hK4 => ?_
  refine gc_region ?_
  refine g_op (.free rfl) fun K6 hK6 => ?_
  refine go_slice0 rfl rfl rfl Try.underlying22 ?_
  intro B5
  refine hK6 _ _ ?_
  refine g_v (.free rfl) rfl rfl (qt_assign rfl rfl) ?_
  refine g_nil ?_
  refine gk_then (hK4 _ _ ?_)
  refine gc_seq fun K7 hK7 => ?_
  refine gc_seq fun K8 hK8 => ?_
  refine gc_region ?_
  refine g_v (.free rfl) rfl rfl (qt_assign rfl rfl) ?_
  refine g_nil ?_
  refine gk_then (hK8 _ _ ?_)
  refine gc_block ?_
  try simp only [List.nil_append, List.cons_append, List.append_assoc, List.set_cons_succ, List.set_cons_zero]
  refine gc_loop ([(0, _), (1, _), (2, _), (4, _)] : Env) (fun s : Nat × (Option Addr) × Nat => (fun (k : Nat) (a : Option Addr) (q : Nat) => ([(5, .slice a (fullL c xs k).length q), (6, .int .i64 (k : Int))] : Env)) s.1 s.2.1 s.2.2) (fun s : Nat × (Option Addr) × Nat => (fun (k : Nat) (a : Option Addr) (q : Nat) => ([(1, own1I (.slice a (fullL c xs k).length q) (fullL c xs k))] : List (Nat × Itm))) s.1 s.2.1 s.2.2) (fun s : Nat × (Option Addr) × Nat => (fun (k : Nat) (a : Option Addr) (q : Nat) => k ≤ c.s.length) s.1 s.2.1 s.2.2) (fun s : Nat × (Option Addr) × Nat => (fun (k : Nat) (a : Option Addr) (q : Nat) => c.s.length - k) s.1 s.2.1 s.2.2) (0, _, _) (sub_cons rfl (sub_cons rfl (sub_cons rfl (sub_cons rfl (sub_cons rfl (sub_cons rfl sub_nil)))))) rfl (Nat.zero_le _) ?_
  rintro ⟨k, a, q⟩ hinv KL9 hKL9
  simp only [updL, List.foldl_cons, List.foldl_nil, List.set_cons_succ, List.set_cons_zero, List.cons_append, List.nil_append] at hinv hKL9 ⊢
  have hk := hinv
  have hl := fullL_len c xs k
  refine gc_seq fun K10 hK10 => ?_
  refine gc_seq fun K11 hK11 => ?_
  refine gc_region ?_
  refine g_v (.free rfl) rfl rfl (qt_move rfl rfl) ?_
  refine g_v (.free rfl) rfl rfl (qt_field (z := 0) (off := 1) rfl rfl Try.underlying44 rfl (by kernel_rfl) rfl) ?_
  refine g_v (.free rfl) rfl rfl (qt_loadB (n := 0) rfl rfl Try.underlying22 rfl rfl rfl) ?_
  refine g_v (.free rfl) rfl rfl (qt_len rfl rfl ulE1 (fun w M => lenV_rd h1)) ?_
  refine g_v (.free rfl) rfl rfl (qt_lss rfl rfl rfl) ?_
  refine g_nil ?_
  refine gk_then (hK11 _ _ ?_)
  refine gc_cond rfl (fun hc0 => ?_) (fun hc0 => ?_)
  · try simp only [decide_eq_true_eq, decide_eq_false_iff_not, Bool.not_eq_true', Bool.not_eq_false', Bool.not_eq_eq_eq_not, Bool.not_true, Bool.not_false, ne_eq, Decidable.not_not, Classical.not_not] at hc0
    refine gc_skip ?_
    refine gk_then (hK10 _ _ ?_)
    refine gc_seq fun K12 hK12 => ?_
    refine gc_block ?_
    refine gc_seq fun K13 hK13 => ?_
    refine gc_region ?_
    refine g_v (.free rfl) rfl rfl (qt_move rfl rfl) ?_
    refine g_v (.free rfl) rfl rfl (qt_field (z := 0) (off := 1) rfl rfl Try.underlying44 rfl (by kernel_rfl) rfl) ?_
    refine g_v (.free rfl) rfl rfl (qt_loadB (n := 0) rfl rfl Try.underlying22 rfl rfl rfl) ?_
    refine g_v (.free rfl) rfl rfl (qt_move rfl rfl) ?_
    refine g_v (.free rfl) rfl rfl (qt_index rfl rfl rfl ulE1 szE1 (fun w M => lenA_rd h1) (by omega) (by omega)) ?_
    refine g_v (.free rfl) rfl rfl (qt_load1 rfl rfl Try.underlying2 rfl (fun w M => mem_rd M h1) (by omega) (by omega)) ?_
    refine g_q (.free rfl) rfl rfl (qt_call rfl Try.func105 rfl (by decide) rfl (fun w M => specHas2_any w _ _ _ (mem_rd M hu))) ?_
    refine g_splitv (.free rfl) rfl rfl (qt_move rfl rfl) (fun hs5_7 => ?_) (fun hs5_7 => ?_)
    · try simp only [decide_eq_true_eq, decide_eq_false_iff_not, Bool.not_eq_true', Bool.not_eq_false', Bool.not_eq_eq_eq_not, Bool.not_true, Bool.not_false, ne_eq, Decidable.not_not, Classical.not_not] at hs5_7
      refine g_v (.held _ _ _ rfl rfl rfl) rfl rfl (qt_move rfl rfl) ?_
      refine g_v (.held _ _ _ rfl rfl rfl) rfl rfl (qt_field (z := 0) (off := 2) rfl rfl Try.underlying44 rfl (by kernel_rfl) rfl) ?_
      refine g_v (.held _ _ _ rfl rfl rfl) rfl rfl (qt_loadB (n := 0) rfl rfl Try.underlying22 rfl rfl rfl) ?_
      refine g_v (.held _ _ _ rfl rfl rfl) rfl rfl (qt_move rfl rfl) ?_
      refine g_v (.held _ _ _ rfl rfl rfl) rfl rfl (qt_index rfl rfl rfl ulE1 szE1 (fun w M => lenA_rd h2) (by omega) (by omega)) ?_
      refine g_v (.held _ _ _ rfl rfl rfl) rfl rfl (qt_load1 rfl rfl Try.underlying2 rfl (fun w M => mem_rd M h2) (by omega) (by omega)) ?_
      refine g_q (.held _ _ _ rfl rfl rfl) rfl rfl (qt_call rfl Try.func105 rfl (by decide) rfl (fun w M => specHas2_any w _ _ _ (mem_rd M hu))) ?_
      refine g_v (.free rfl) rfl rfl (qt_pick_t rfl rfl rfl) ?_
      refine g_nil ?_
      refine gk_then (hK13 _ _ ?_)
      refine gc_cond rfl (fun hc1 => ?_) (fun hc1 => ?_)
      · try simp only [decide_eq_true_eq, decide_eq_false_iff_not, Bool.not_eq_true', Bool.not_eq_false', Bool.not_eq_eq_eq_not, Bool.not_true, Bool.not_false, ne_eq, Decidable.not_not, Classical.not_not] at hc1
        refine gc_region ?_
        refine g_v (.free rfl) rfl rfl (qt_move rfl rfl) ?_
        refine g_v (.free rfl) rfl rfl (qt_move rfl rfl) ?_
        refine g_op (.free rfl) fun K15 hK15 => ?_
        refine go_slice1 rfl rfl rfl rfl Try.underlying22 ?_
        intro B14
        refine hK15 _ _ ?_
        refine g_op (.free rfl) fun K17 hK17 => ?_
        refine go_append (n := 1) (m := 2) rfl rfl rfl Try.underlying22 rfl rfl rfl rfl (by omega) ?_
        intro va16 vc16
        refine hK17 _ _ ?_
        refine g_v (.free rfl) rfl rfl (qt_assign rfl rfl) ?_
        refine g_nil ?_
        refine gk_block ?_
        refine gk_then (hK12 _ _ ?_)
        refine gc_region ?_
        refine g_v (.free rfl) rfl rfl (qt_move rfl rfl) ?_
        refine g_v (.free rfl) rfl rfl (qt_add rfl rfl rfl (by omega)) ?_
        refine g_v (.free rfl) rfl rfl (qt_assign rfl rfl) ?_
        refine g_nil ?_
        rw [fullL_t ⟨bP_t' hs5_7, bP_t' hc1⟩]
        refine gk_then (gk_take 2 ?_)
        refine gk_sub ?hs_18 (hKL9 (k + 1, _, _) ?hi_18 ?hm_18)
        case hs_18 => exact (sub_cons rfl (sub_cons rfl (sub_cons rfl (sub_cons rfl (sub_cons rfl (sub_cons rfl sub_nil))))))
        case hi_18 => omega
        case hm_18 => omega
      · try simp only [decide_eq_true_eq, decide_eq_false_iff_not, Bool.not_eq_true', Bool.not_eq_false', Bool.not_eq_eq_eq_not, Bool.not_true, Bool.not_false, ne_eq, Decidable.not_not, Classical.not_not] at hc1
        refine gc_skip ?_
        refine gk_block ?_
        refine gk_then (hK12 _ _ ?_)
        refine gc_region ?_
        refine g_v (.free rfl) rfl rfl (qt_move rfl rfl) ?_
        refine g_v (.free rfl) rfl rfl (qt_add rfl rfl rfl (by omega)) ?_
        refine g_v (.free rfl) rfl rfl (qt_assign rfl rfl) ?_
        refine g_nil ?_
        rw [fullL_f fun h => bP_f' hc1 h.2]
        refine gk_then (gk_take 2 ?_)
        refine gk_sub ?hs_19 (hKL9 (k + 1, _, _) ?hi_19 ?hm_19)
        case hs_19 => exact (sub_cons rfl (sub_cons rfl (sub_cons rfl (sub_cons rfl (sub_cons rfl (sub_cons rfl sub_nil))))))
        case hi_19 => omega
        case hm_19 => omega
    · try simp only [decide_eq_true_eq, decide_eq_false_iff_not, Bool.not_eq_true', Bool.not_eq_false', Bool.not_eq_eq_eq_not, Bool.not_true, Bool.not_false, ne_eq, Decidable.not_not, Classical.not_not] at hs5_7
      refine g_skip (.not _ _ _ _ rfl rfl rfl rfl) rfl rfl ?_
      refine g_skip (.not _ _ _ _ rfl rfl rfl rfl) rfl rfl ?_
      refine g_skip (.not _ _ _ _ rfl rfl rfl rfl) rfl rfl ?_
      refine g_skip (.not _ _ _ _ rfl rfl rfl rfl) rfl rfl ?_
      refine g_skip (.not _ _ _ _ rfl rfl rfl rfl) rfl rfl ?_
      refine g_skip (.not _ _ _ _ rfl rfl rfl rfl) rfl rfl ?_
      refine g_skip (.not _ _ _ _ rfl rfl rfl rfl) rfl rfl ?_
      refine g_v (.free rfl) rfl rfl (qt_pick_f rfl rfl rfl) ?_
      refine g_nil ?_
      refine gk_then (hK13 _ _ ?_)
      refine gc_cond_f rfl ?_
      refine gc_skip ?_
      refine gk_block ?_
      refine gk_then (hK12 _ _ ?_)
      refine gc_region ?_
      refine g_v (.free rfl) rfl rfl (qt_move rfl rfl) ?_
      refine g_v (.free rfl) rfl rfl (qt_add rfl rfl rfl (by omega)) ?_
      refine g_v (.free rfl) rfl rfl (qt_assign rfl rfl) ?_
      refine g_nil ?_
      rw [fullL_f fun h => bP_f' hs5_7 h.1]
      refine gk_then (gk_take 2 ?_)
      refine gk_sub ?hs_20 (hKL9 (k + 1, _, _) ?hi_20 ?hm_20)
      case hs_20 => exact (sub_cons rfl (sub_cons rfl (sub_cons rfl (sub_cons rfl (sub_cons rfl (sub_cons rfl sub_nil))))))
      case hi_20 => omega
      case hm_20 => omega
  · try simp only [decide_eq_true_eq, decide_eq_false_iff_not, Bool.not_eq_true', Bool.not_eq_false', Bool.not_eq_eq_eq_not, Bool.not_true, Bool.not_false, ne_eq, Decidable.not_not, Classical.not_not] at hc0
    refine gc_exit ?_
    refine gk_then_exit ?_
    refine gk_then_exit ?_
    refine gk_block_hit ?_
    refine gk_then (hK7 _ _ ?_)
    refine gc_seq fun K21 hK21 => ?_
    refine gc_region ?_
    refine g_v (.free rfl) rfl rfl (qt_move rfl rfl) ?_
    refine g_v (.free rfl) rfl rfl (qt_assign rfl rfl) ?_
    refine g_nil ?_
    refine gk_then (hK21 _ _ ?_)
    refine gc_ret ?_
    refine ret_1 rfl rfl  (fun w M => ?_)
    obtain rfl : k = c.s.length := by omega
    exact ⟨_, rfl, mem_own1 (n := 1) M rfl, M.1⟩

end Go.Proofs.Ytbfenibkbmkcaaa
