
/- Places in lists; lists that rise; the arrows between some objects: the model's and the program's. -/
import Derived.Test.YtgkfampgofjkfaaHomL
import Derived.Test.YtgkfampgofjkfaaRul7
set_option linter.unusedSimpArgs false
set_option linter.unusedVariables false
set_option linter.unusedSectionVars false
namespace Go.Proofs.Ytgkfampgofjkfaa
open Go.RowKit


theorem idxI_t {xs : List Int} {x : Int} {k : Nat} (hk : k < xs.length) (h : at0 xs k = x) (hno : ∀ j : Nat, j < k → ¬ at0 xs j = x) : idxI xs x = k := by
  rw [at0_nat] at h
  rw [idxI, if_pos (mem_of_getD hk h), idx_hit hk h fun j hj e => hno j hj (by rw [at0_nat]; exact e)]
theorem idxI_f {xs : List Int} {x : Int} (hno : ∀ j : Nat, j < xs.length → ¬ at0 xs j = x) : x ∉ xs := not_mem_of fun j hj e => hno j hj (by rw [at0_nat]; exact e)
theorem idxI_neg {xs : List Int} {x : Int} (h : x ∉ xs) : idxI xs x = -1 := by rw [idxI, if_neg h]
theorem idxI_0 {xs : List Int} {x : Int} : 0 ≤ idxI xs x ↔ x ∈ xs := by
  unfold idxI
  split
  · next h => exact ⟨fun _ => h, fun _ => by omega⟩
  · next h => exact ⟨fun h2 => by omega, fun h2 => absurd h2 h⟩
def risesTo (xs : List Int) (k : Nat) : Prop := ∀ j : Nat, 1 ≤ j → j < k → at0 xs ((j : Int) - 1) < at0 xs (j : Int)
theorem rises_next {xs : List Int} {k : Nat} (h : risesTo xs k) (hn : at0 xs ((k : Int) - 1) < at0 xs (k : Int)) : risesTo xs (k + 1) := fun j h1 h2 => by
  rcases Nat.lt_or_ge j k with h3 | h3
  · exact h j h1 h3
  · obtain rfl : j = k := by omega
    exact hn
theorem rises_mono {xs : List Int} {k : Nat} (h : risesTo xs k) (hk : xs.length ≤ k) : risesTo xs xs.length := fun j h1 h2 => h j h1 (by omega)
def betw (c : Cat) (xs : List Int) (f : Nat) : Prop := at0 c.s f ∈ xs ∧ at0 c.t f ∈ xs
noncomputable def fullL (c : Cat) (xs : List Int) (k : Nat) : List Int := ((List.range k).filter fun f => bP (betw c xs f)).map fun (f : Nat) => (f : Int)
theorem fullL_len (c : Cat) (xs : List Int) (k : Nat) : (fullL c xs k).length ≤ k := by
  simp only [fullL, List.length_map]; exact Nat.le_trans (List.length_filter_le _ _) (by simp)
theorem fullL_t {c : Cat} {xs : List Int} {k : Nat} (h : betw c xs k) : fullL c xs k ++ [(k : Int)] = fullL c xs (k + 1) := by
  simp [fullL, List.range_succ, bP_t h]
theorem fullL_f {c : Cat} {xs : List Int} {k : Nat} (h : ¬ betw c xs k) : fullL c xs k = fullL c xs (k + 1) := by
  simp [fullL, List.range_succ, bP_f h]

set_option maxHeartbeats 1000000 in
set_option maxRecDepth 100000 in
theorem specHas2_any (w : World) (u : Value) (xs : List Int) (x : Int) (hu : Rd w u xs) :
    Calls Try.prog 92 #[u, .int .i64 x] w (RetB w (bP (x ∈ xs))) := by
  obtain ⟨ua, uc, rfl⟩ := rd_form hu
  have hux : xs.length ≤ 17592186044415 := by obtain ⟨_, _, _, hl, _⟩ := hu; exact hl
  go_enter Try.func92, Try.ntmps92
  refine gc_enter (N := 18) rfl (look_cons (k := 0) rfl (look_cons (k := 1) rfl (look_nil _))) ?_
  refine gc_seq fun K1 hK1 => ?_
  refine gc_region ?_
  refine g_v (.free rfl) rfl rfl (qt_assign rfl rfl) ?_
  refine g_nil ?_
  refine gk_then (hK1 _ _ ?_)
  refine gc_seq fun K2 hK2 => ?_
  refine gc_seq fun K3 hK3 => ?_
  refine gc_region ?_
  refine g_v (.free rfl) rfl rfl (qt_assign rfl rfl) ?_
  refine g_nil ?_
  refine gk_then (hK3 _ _ ?_)
  refine gc_block ?_
  try simp only [List.nil_append, List.cons_append, List.append_assoc, List.set_cons_succ, List.set_cons_zero]
  refine gc_loop ([(0, _), (1, _)] : Env) (fun s : Nat => (fun (k : Nat) => ([(5, .int .i64 (k : Int))] : Env)) s) (fun s : Nat => (fun (k : Nat) => ([] : List (Nat × Itm))) s) (fun s : Nat => (fun (k : Nat) => k ≤ xs.length ∧ ∀ j : Nat, j < k → ¬ at0 xs j = x) s) (fun s : Nat => (fun (k : Nat) => xs.length - k) s) (0) (sub_cons rfl (sub_cons rfl (sub_cons rfl sub_nil))) rfl ⟨Nat.zero_le _, fun f hf => absurd hf (by omega)⟩ ?_
  rintro k hinv KL4 hKL4
  simp only [updL, List.foldl_cons, List.foldl_nil, List.set_cons_succ, List.set_cons_zero, List.cons_append, List.nil_append] at hinv hKL4 ⊢
  obtain ⟨hk, hno⟩ := hinv
  refine gc_seq fun K5 hK5 => ?_
  refine gc_seq fun K6 hK6 => ?_
  refine gc_region ?_
  refine g_v (.free rfl) rfl rfl (qt_move rfl rfl) ?_
  refine g_v (.free rfl) rfl rfl (qt_move rfl rfl) ?_
  refine g_v (.free rfl) rfl rfl (qt_len rfl rfl ulE1 (fun w M => lenV_rd hu)) ?_
  refine g_v (.free rfl) rfl rfl (qt_lss rfl rfl rfl) ?_
  refine g_nil ?_
  refine gk_then (hK6 _ _ ?_)
  refine gc_cond rfl (fun hc0 => ?_) (fun hc0 => ?_)
  · try simp only [decide_eq_true_eq, decide_eq_false_iff_not, Bool.not_eq_true', Bool.not_eq_false', Bool.not_eq_eq_eq_not, Bool.not_true, Bool.not_false, ne_eq, Decidable.not_not, Classical.not_not] at hc0
    refine gc_skip ?_
    refine gk_then (hK5 _ _ ?_)
    refine gc_seq fun K7 hK7 => ?_
    refine gc_block ?_
    refine gc_seq fun K8 hK8 => ?_
    refine gc_region ?_
    refine g_v (.free rfl) rfl rfl (qt_move rfl rfl) ?_
    refine g_v (.free rfl) rfl rfl (qt_move rfl rfl) ?_
    refine g_v (.free rfl) rfl rfl (qt_index rfl rfl rfl ulE1 szE1 (fun w M => lenA_rd hu) (by omega) (by omega)) ?_
    refine g_v (.free rfl) rfl rfl (qt_load1 rfl rfl Try.underlying2 rfl (fun w M => mem_rd M hu) (by omega) (by omega)) ?_
    refine g_v (.free rfl) rfl rfl (qt_move rfl rfl) ?_
    refine g_v (.free rfl) rfl rfl (qt_eql rfl rfl rfl) ?_
    refine g_nil ?_
    refine gk_then (hK8 _ _ ?_)
    refine gc_cond rfl (fun hc1 => ?_) (fun hc1 => ?_)
    · try simp only [decide_eq_true_eq, decide_eq_false_iff_not, Bool.not_eq_true', Bool.not_eq_false', Bool.not_eq_eq_eq_not, Bool.not_true, Bool.not_false, ne_eq, Decidable.not_not, Classical.not_not] at hc1
      refine gc_seq fun K9 hK9 => ?_
      refine gc_region ?_
      refine g_v (.free rfl) rfl rfl (qt_assign rfl rfl) ?_
      refine g_nil ?_
      refine gk_then (hK9 _ _ ?_)
      refine gc_ret ?_
      refine gk_block_ret ?_
      refine gk_then_ret ?_
      refine gk_then_ret ?_
      refine gk_block_ret ?_
      refine gk_then_ret ?_
      refine ret_1 rfl rfl  (fun w M => ?_)
      rw [bP_t (show x ∈ xs from mem_of_getD (k := k) (by omega) (by rw [← at0_nat]; exact hc1))]; exact ⟨rfl, M.1⟩
    · try simp only [decide_eq_true_eq, decide_eq_false_iff_not, Bool.not_eq_true', Bool.not_eq_false', Bool.not_eq_eq_eq_not, Bool.not_true, Bool.not_false, ne_eq, Decidable.not_not, Classical.not_not] at hc1
      refine gc_skip ?_
      refine gk_block ?_
      refine gk_then (hK7 _ _ ?_)
      refine gc_region ?_
      refine g_v (.free rfl) rfl rfl (qt_move rfl rfl) ?_
      refine g_v (.free rfl) rfl rfl (qt_add rfl rfl rfl (by omega)) ?_
      refine g_v (.free rfl) rfl rfl (qt_assign rfl rfl) ?_
      refine g_nil ?_
      refine gk_then (gk_take 0 ?_)
      refine gk_sub ?hs_10 (hKL4 (k + 1) ?hi_10 ?hm_10)
      case hs_10 => exact (sub_cons rfl (sub_cons rfl (sub_cons rfl sub_nil)))
      case hi_10 => exact ⟨by omega, all_next hno hc1⟩
      case hm_10 => omega
  · try simp only [decide_eq_true_eq, decide_eq_false_iff_not, Bool.not_eq_true', Bool.not_eq_false', Bool.not_eq_eq_eq_not, Bool.not_true, Bool.not_false, ne_eq, Decidable.not_not, Classical.not_not] at hc0
    refine gc_exit ?_
    refine gk_then_exit ?_
    refine gk_then_exit ?_
    refine gk_block_hit ?_
    refine gk_then (hK2 _ _ ?_)
    refine gc_seq fun K11 hK11 => ?_
    refine gc_region ?_
    refine g_v (.free rfl) rfl rfl (qt_assign rfl rfl) ?_
    refine g_nil ?_
    refine gk_then (hK11 _ _ ?_)
    refine gc_ret ?_
    refine ret_1 rfl rfl  (fun w M => ?_)
    obtain rfl : k = xs.length := by omega
    rw [bP_f (idxI_f hno)]; exact ⟨rfl, M.1⟩

end Go.Proofs.Ytgkfampgofjkfaa
