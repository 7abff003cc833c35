
/- The category of a monoid: both sides. -/
import Derived.Test.YtbfenibkbmkcaabPlanI
import Derived.Test.YtbfenibkbmkcaabMonS
set_option linter.unusedSimpArgs false
set_option linter.unusedVariables false
set_option linter.unusedSectionVars false
namespace Go.Proofs.Ytbfenibkbmkcaab
open Go.RowKit


noncomputable def fMonoidCategory (r : List (List Int)) : Cat × Int := if bP (MonP r) = true then (if r.length ≤ 40 then (monC r, 0) else (cat0, 3)) else (cat0, 1)
theorem mon_n {r : List (List Int)} (h : ¬ MonP r) : fMonoidCategory r = (cat0, 1) := if_neg (by rw [bP_f h]; decide)
theorem mon_l {r : List (List Int)} (h : MonP r) (h' : ¬ r.length ≤ 40) : fMonoidCategory r = (cat0, 3) := by unfold fMonoidCategory; rw [if_pos (bP_t h), if_neg h']
theorem mon_t {r : List (List Int)} (h : MonP r) (h' : r.length ≤ 40) : fMonoidCategory r = (monC r, 0) := by unfold fMonoidCategory; rw [if_pos (bP_t h), if_pos h']
theorem mon_fit {r : List (List Int)} : FitP (monC r) ↔ r.length ≤ 40 := ⟨fun h => by have := h.2; simpa [monC] using this, fun h => ⟨by simp [monC], by simpa [monC] using h⟩⟩
def entM (f : Nat) : Ent Int := (0, 0, (f : Int))
theorem entM_def (f : Nat) : ((0 : Int), (0 : Int), (f : Int)) = entM f := rfl
theorem entM_inj (i j : Nat) (h : entM i = entM j) : i = j := by simp only [entM, Prod.mk.injEq] at h; omega
theorem mon_made {r : List (List Int)} (h : MonP r) : madeE 1 (entsTo entM r.length) (fun _ => 0) (fun f g => at0 (row2 r f) g) = (fMonoidCategory r).1 ∧ madeEc (α := Int) 1 (entsTo entM r.length) = (fMonoidCategory r).2 := by
  by_cases hf : r.length ≤ 40
  · have hm := madeE_t (n := 1) (es := entsTo entM r.length) (u := fun _ => (0 : Int)) (th := fun f g => at0 (row2 r f) g) (by omega) (by rw [entsTo_len]; exact hf)
    rw [mon_t h hf, hm.1, hm.2]
    refine ⟨?_, rfl⟩
    have hinj : ∀ i j, i < r.length → j < r.length → entM i = entM j → i = j := fun i j _ _ h => entM_inj i j h
    refine buildE_to rfl (by simp [monC]) (by simp [monC]) rfl rfl (fun i hi => (h.1.2 i hi).1) (fun i hi => rep_at hi) (fun i hi => rep_at hi) (fun x hx => ?_) (fun i j hi hj => ?_)
    · obtain rfl : x = 0 := by simpa using hx
      exact (posE_to hinj h.1.1 rfl).symm
    · have hq := sq_at h.1.2 hi hj
      unfold cellE
      rw [if_pos (show (entM i).2.1 = (entM j).1 from rfl)]
      refine (posE_int hinj hq.1 hq.2 ?_).symm
      show ((0 : Int), (0 : Int), _) = _
      rw [Int.toNat_of_nonneg hq.1]
      rfl
  · have hm := madeE_f (n := 1) (es := entsTo entM r.length) (u := fun _ => (0 : Int)) (th := fun f g => at0 (row2 r f) g) (fun h => hf (by have := h.2; rwa [entsTo_len] at this))
    rw [mon_l h hf, hm.1, hm.2]; exact ⟨rfl, rfl⟩
theorem bound_MonoidCategory (r : List (List Int)) : mzC (fMonoidCategory r).1 ≤ 1152921504606846 := by
  by_cases h : MonP r
  · by_cases hf : r.length ≤ 40
    · rw [mon_t h hf]
      exact mz_small (by simpa [monC] using hf) (by simpa [monC] using hf) (by simp [monC]) hf fun i hi => by rw [show (monC r).m = r from rfl, (h.1.2 i hi).1]; exact hf
    · rw [mon_l h hf]; show mzC cat0 ≤ _; decide
  · rw [mon_n h]; show mzC cat0 ≤ _; decide


theorem sq_rowI {rows : List (List Int)} {b : Int} (h : SquareP rows b) {i : Int} (h0 : 0 ≤ i) (h1 : i < rows.length) : (row2 rows i).length = rows.length := by
  obtain ⟨n, rfl⟩ := Int.eq_ofNat_of_zero_le h0
  exact (h n (by omega)).1

set_option maxHeartbeats 1000000 in
set_option maxRecDepth 100000 in
theorem specMon_t (w : World) (u : Value) (r : List (List Int)) (hu : Rd2 w u r) (hf : FitP (monC r)) :
    Calls Try.prog 13 #[u] w (RetCI w (fMonoidCategory r).1 (fMonoidCategory r).2) := by
  obtain ⟨ua, uc, rfl⟩ := rd2_form hu
  have hul := rd2_len hu
  go_enter Try.func13, Try.ntmps13
  refine gc_enter (N := 88) rfl (look_cons (k := 0) rfl (look_nil _)) ?_
  refine gc_seq fun K1 hK1 => ?_
  refine gc_region ?_
  refine g_op (.free rfl) fun K3 hK3 => ?_
  refine go_alloc (z := (.agg #[.int .i64 0, .slice none 0 0, .slice none 0 0, .slice none 0 0, .slice none 0 0])) (cs := [.int .i64 0, .slice none 0 0, .slice none 0 0, .slice none 0 0, .slice none 0 0]) rfl rfl rfl (fun w => by kernel_rfl) rfl ?_
  intro B2
  refine hK3 _ _ ?_
  refine g_v (.free rfl) rfl rfl (qt_assign rfl rfl) ?_
  refine g_nil ?_
  refine gk_then (hK1 _ _ ?_)
  refine gc_seq fun K4 hK4 => ?_
  refine gc_seq fun K5 hK5 => ?_
  refine gc_region ?_
  refine g_v (.free rfl) rfl rfl (qt_move rfl rfl) ?_
  refine g_v (.free rfl) rfl rfl (qt_len rfl rfl ulE2 (fun w M => lenV_rd2 hu)) ?_
  refine g_v (.free rfl) rfl rfl (qt_eql rfl rfl rfl) ?_
  refine g_splitv (.free rfl) rfl rfl (qt_move rfl rfl) (fun hs1_3 => ?_) (fun hs1_3 => ?_)
  · try simp only [decide_eq_true_eq, decide_eq_false_iff_not, Bool.not_eq_true', Bool.not_eq_false', Bool.not_eq_eq_eq_not, Bool.not_true, Bool.not_false, ne_eq, Decidable.not_not, Classical.not_not] at hs1_3
    refine g_skip (.not _ _ _ _ rfl rfl rfl rfl) rfl rfl ?_
    refine g_skip (.not _ _ _ _ rfl rfl rfl rfl) rfl rfl ?_
    refine g_skip (.not _ _ _ _ rfl rfl rfl rfl) rfl rfl ?_
    refine g_skip (.not _ _ _ _ rfl rfl rfl rfl) rfl rfl ?_
    refine g_skip (.not _ _ _ _ rfl rfl rfl rfl) rfl rfl ?_
    refine g_v (.free rfl) rfl rfl (qt_pick_t rfl rfl rfl) ?_
    refine g_nil ?_
    refine gk_then (hK5 _ _ ?_)
    refine gc_cond_t rfl ?_
    refine gc_seq fun K6 hK6 => ?_
    refine gc_region ?_
    refine g_v (.free rfl) rfl rfl (qt_build rfl rfl bt0_Category) ?_
    refine g_op (.free rfl) fun K7 hK7 => ?_
    refine go_storeS (n := 0) rfl rfl rfl rfl (by kernel_rfl) rfl rfl rfl ?_
    refine hK7 _ _ ?_
    refine g_v (.free rfl) rfl rfl (qt_assign rfl rfl) ?_
    refine g_nil ?_
    refine gk_then (hK6 _ _ ?_)
    refine gc_ret ?_
    refine gk_then_ret ?_
    refine ret_SI (n := 0) rfl rfl rfl Try.underlying25 rfl (by kernel_rfl) rfl (fun w M => ?_)
    rw [mon_n (fun h => by have := h.1.1; omega)]; exact ⟨_, rfl, ownC_zero _ _, M.1⟩
  · try simp only [decide_eq_true_eq, decide_eq_false_iff_not, Bool.not_eq_true', Bool.not_eq_false', Bool.not_eq_eq_eq_not, Bool.not_true, Bool.not_false, ne_eq, Decidable.not_not, Classical.not_not] at hs1_3
    refine g_v (.held _ _ _ rfl rfl rfl) rfl rfl (qt_move rfl rfl) ?_
    refine g_v (.held _ _ _ rfl rfl rfl) rfl rfl (qt_move rfl rfl) ?_
    refine g_v (.held _ _ _ rfl rfl rfl) rfl rfl (qt_len rfl rfl ulE2 (fun w M => lenV_rd2 hu)) ?_
    refine g_q (.held _ _ _ rfl rfl rfl) rfl rfl (qt_call rfl Try.func34 rfl (by decide) rfl (fun w M => specSquare_any w _ _ _ (mem_rd2 M hu))) ?_
    refine g_v (.held _ _ _ rfl rfl rfl) rfl rfl (qt_not rfl rfl) ?_
    refine g_v (.free rfl) rfl rfl (qt_pick_f rfl rfl rfl) ?_
    refine g_nil ?_
    refine gk_then (hK5 _ _ ?_)
    refine gc_cond rfl (fun hc0 => ?_) (fun hc0 => ?_)
    · try simp only [decide_eq_true_eq, decide_eq_false_iff_not, Bool.not_eq_true', Bool.not_eq_false', Bool.not_eq_eq_eq_not, Bool.not_true, Bool.not_false, ne_eq, Decidable.not_not, Classical.not_not] at hc0
      refine gc_seq fun K8 hK8 => ?_
      refine gc_region ?_
      refine g_v (.free rfl) rfl rfl (qt_build rfl rfl bt0_Category) ?_
      refine g_op (.free rfl) fun K9 hK9 => ?_
      refine go_storeS (n := 0) rfl rfl rfl rfl (by kernel_rfl) rfl rfl rfl ?_
      refine hK9 _ _ ?_
      refine g_v (.free rfl) rfl rfl (qt_assign rfl rfl) ?_
      refine g_nil ?_
      refine gk_then (hK8 _ _ ?_)
      refine gc_ret ?_
      refine gk_then_ret ?_
      refine ret_SI (n := 0) rfl rfl rfl Try.underlying25 rfl (by kernel_rfl) rfl (fun w M => ?_)
      rw [mon_n (fun h => bP_f' hc0 h.1.2)]; exact ⟨_, rfl, ownC_zero _ _, M.1⟩
    · try simp only [decide_eq_true_eq, decide_eq_false_iff_not, Bool.not_eq_true', Bool.not_eq_false', Bool.not_eq_eq_eq_not, Bool.not_true, Bool.not_false, ne_eq, Decidable.not_not, Classical.not_not] at hc0
      refine gc_skip ?_
      refine gk_then (hK4 _ _ ?_)
      refine gc_seq fun K10 hK10 => ?_
      refine gc_seq fun K11 hK11 => ?_
      have hsq : SquareP r r.length := bP_t' hc0
      have hr0 : 0 < r.length := by omega
      refine gc_region ?_
      refine g_v (.free rfl) rfl rfl (qt_assign rfl rfl) ?_
      refine g_nil ?_
      refine gk_then (hK11 _ _ ?_)
      refine gc_block ?_
      try simp only [List.nil_append, List.cons_append, List.append_assoc, List.set_cons_succ, List.set_cons_zero]
      refine gc_loop ([(0, _), (2, _), (16, _)] : Env) (fun s : Nat => (fun (k : Nat) => ([(4, .int .i64 (k : Int))] : Env)) s) (fun s : Nat => (fun (k : Nat) => ([] : List (Nat × Itm))) s) (fun s : Nat => (fun (k : Nat) => k ≤ r.length ∧ ∀ i : Nat, i < k → UnitRow r i ∧ AscRow r i) s) (fun s : Nat => (fun (k : Nat) => r.length - k) s) (0) (sub_cons rfl (sub_cons rfl (sub_cons rfl (sub_cons rfl sub_nil)))) rfl ⟨Nat.zero_le _, fun f hf => absurd hf (by omega)⟩ ?_
      rintro k hinv KL12 hKL12
      simp only [updL, List.foldl_cons, List.foldl_nil, List.set_cons_succ, List.set_cons_zero, List.cons_append, List.nil_append] at hinv hKL12 ⊢
      obtain ⟨hk, hall⟩ := hinv
      refine gc_seq fun K13 hK13 => ?_
      refine gc_seq fun K14 hK14 => ?_
      refine gc_region ?_
      refine g_v (.free rfl) rfl rfl (qt_move rfl rfl) ?_
      refine g_v (.free rfl) rfl rfl (qt_move rfl rfl) ?_
      refine g_v (.free rfl) rfl rfl (qt_len rfl rfl ulE2 (fun w M => lenV_rd2 hu)) ?_
      refine g_v (.free rfl) rfl rfl (qt_lss rfl rfl rfl) ?_
      refine g_nil ?_
      refine gk_then (hK14 _ _ ?_)
      refine gc_cond rfl (fun hc1 => ?_) (fun hc1 => ?_)
      · try simp only [decide_eq_true_eq, decide_eq_false_iff_not, Bool.not_eq_true', Bool.not_eq_false', Bool.not_eq_eq_eq_not, Bool.not_true, Bool.not_false, ne_eq, Decidable.not_not, Classical.not_not] at hc1
        refine gc_skip ?_
        refine gk_then (hK13 _ _ ?_)
        refine gc_seq fun K15 hK15 => ?_
        refine gc_block ?_
        refine gc_seq fun K16 hK16 => ?_
        refine gc_seq fun K17 hK17 => ?_
        have hq1 := (hsq k (by omega)).1
        have hq0 : (row2 r 0).length = r.length := sq_rowI hsq (by omega) (by omega)
        refine gc_region ?_
        refine g_v (.free rfl) rfl rfl (qt_move rfl rfl) ?_
        refine g_v (.free rfl) rfl rfl (qt_index rfl rfl rfl ulE2 szE2 (fun w M => lenA_rd2 hu) (by omega) (by omega)) ?_
        refine g_load2 (.free rfl) rfl rfl rfl rfl Try.underlying22 rfl hu (by omega) (by omega) ?_
        intro ra18 rc18 hr18
        refine g_v (.free rfl) rfl rfl (qt_move rfl rfl) ?_
        refine g_v (.free rfl) rfl rfl (qt_index rfl rfl rfl ulE1 szE1 (fun w M => lenA_rd hr18) (by omega) (by omega)) ?_
        refine g_v (.free rfl) rfl rfl (qt_load1 rfl rfl Try.underlying2 rfl (fun w M => mem_rd M hr18) (by omega) (by omega)) ?_
        refine g_v (.free rfl) rfl rfl (qt_move rfl rfl) ?_
        refine g_v (.free rfl) rfl rfl (qt_neq rfl rfl rfl) ?_
        refine g_splitv (.free rfl) rfl rfl (qt_move rfl rfl) (fun hs6_8 => ?_) (fun hs6_8 => ?_)
        · try simp only [decide_eq_true_eq, decide_eq_false_iff_not, Bool.not_eq_true', Bool.not_eq_false', Bool.not_eq_eq_eq_not, Bool.not_true, Bool.not_false, ne_eq, Decidable.not_not, Classical.not_not] at hs6_8
          refine g_skip (.not _ _ _ _ rfl rfl rfl rfl) rfl rfl ?_
          refine g_skip (.not _ _ _ _ rfl rfl rfl rfl) rfl rfl ?_
          refine g_skip (.not _ _ _ _ rfl rfl rfl rfl) rfl rfl ?_
          refine g_skip (.not _ _ _ _ rfl rfl rfl rfl) rfl rfl ?_
          refine g_skip (.not _ _ _ _ rfl rfl rfl rfl) rfl rfl ?_
          refine g_skip (.not _ _ _ _ rfl rfl rfl rfl) rfl rfl ?_
          refine g_skip (.not _ _ _ _ rfl rfl rfl rfl) rfl rfl ?_
          refine g_skip (.not _ _ _ _ rfl rfl rfl rfl) rfl rfl ?_
          refine g_v (.free rfl) rfl rfl (qt_pick_t rfl rfl rfl) ?_
          refine g_nil ?_
          refine gk_then (hK17 _ _ ?_)
          refine gc_cond_t rfl ?_
          refine gc_seq fun K19 hK19 => ?_
          refine gc_region ?_
          refine g_v (.free rfl) rfl rfl (qt_build rfl rfl bt0_Category) ?_
          refine g_op (.free rfl) fun K20 hK20 => ?_
          refine go_storeS (n := 0) rfl rfl rfl rfl (by kernel_rfl) rfl rfl rfl ?_
          refine hK20 _ _ ?_
          refine g_v (.free rfl) rfl rfl (qt_assign rfl rfl) ?_
          refine g_nil ?_
          refine gk_then (hK19 _ _ ?_)
          refine gc_ret ?_
          refine gk_then_ret ?_
          refine gk_block_ret ?_
          refine gk_then_ret ?_
          refine gk_then_ret ?_
          refine gk_block_ret ?_
          refine gk_then_ret ?_
          refine ret_SI (n := 0) rfl rfl rfl Try.underlying25 rfl (by kernel_rfl) rfl (fun w M => ?_)
          rw [mon_n (fun h => hs6_8 (h.2.1 k (by omega)).1)]; exact ⟨_, rfl, ownC_zero _ _, M.1⟩
        · try simp only [decide_eq_true_eq, decide_eq_false_iff_not, Bool.not_eq_true', Bool.not_eq_false', Bool.not_eq_eq_eq_not, Bool.not_true, Bool.not_false, ne_eq, Decidable.not_not, Classical.not_not] at hs6_8
          refine g_v (.held _ _ _ rfl rfl rfl) rfl rfl (qt_move rfl rfl) ?_
          refine g_v (.held _ _ _ rfl rfl rfl) rfl rfl (qt_move rfl rfl) ?_
          refine g_v (.held _ _ _ rfl rfl rfl) rfl rfl (qt_index rfl rfl rfl ulE2 szE2 (fun w M => lenA_rd2 hu) (by omega) (by omega)) ?_
          refine g_load2 (.held _ _ _ rfl rfl rfl) rfl rfl rfl rfl Try.underlying22 rfl hu (by omega) (by omega) ?_
          intro ra21 rc21 hr21
          refine g_v (.held _ _ _ rfl rfl rfl) rfl rfl (qt_index rfl rfl rfl ulE1 szE1 (fun w M => lenA_rd hr21) (by omega) (by omega)) ?_
          refine g_v (.held _ _ _ rfl rfl rfl) rfl rfl (qt_load1 rfl rfl Try.underlying2 rfl (fun w M => mem_rd M hr21) (by omega) (by omega)) ?_
          refine g_v (.held _ _ _ rfl rfl rfl) rfl rfl (qt_move rfl rfl) ?_
          refine g_v (.held _ _ _ rfl rfl rfl) rfl rfl (qt_neq rfl rfl rfl) ?_
          refine g_v (.free rfl) rfl rfl (qt_pick_f rfl rfl rfl) ?_
          refine g_nil ?_
          refine gk_then (hK17 _ _ ?_)
          refine gc_cond rfl (fun hc2 => ?_) (fun hc2 => ?_)
          · try simp only [decide_eq_true_eq, decide_eq_false_iff_not, Bool.not_eq_true', Bool.not_eq_false', Bool.not_eq_eq_eq_not, Bool.not_true, Bool.not_false, ne_eq, Decidable.not_not, Classical.not_not] at hc2
            refine gc_seq fun K22 hK22 => ?_
            refine gc_region ?_
            refine g_v (.free rfl) rfl rfl (qt_build rfl rfl bt0_Category) ?_
            refine g_op (.free rfl) fun K23 hK23 => ?_
            refine go_storeS (n := 0) rfl rfl rfl rfl (by kernel_rfl) rfl rfl rfl ?_
            refine hK23 _ _ ?_
            refine g_v (.free rfl) rfl rfl (qt_assign rfl rfl) ?_
            refine g_nil ?_
            refine gk_then (hK22 _ _ ?_)
            refine gc_ret ?_
            refine gk_then_ret ?_
            refine gk_block_ret ?_
            refine gk_then_ret ?_
            refine gk_then_ret ?_
            refine gk_block_ret ?_
            refine gk_then_ret ?_
            refine ret_SI (n := 0) rfl rfl rfl Try.underlying25 rfl (by kernel_rfl) rfl (fun w M => ?_)
            rw [mon_n (fun h => hc2 (h.2.1 k (by omega)).2)]; exact ⟨_, rfl, ownC_zero _ _, M.1⟩
          · try simp only [decide_eq_true_eq, decide_eq_false_iff_not, Bool.not_eq_true', Bool.not_eq_false', Bool.not_eq_eq_eq_not, Bool.not_true, Bool.not_false, ne_eq, Decidable.not_not, Classical.not_not] at hc2
            refine gc_skip ?_
            refine gk_then (hK16 _ _ ?_)
            refine gc_seq fun K24 hK24 => ?_
            refine gc_region ?_
            refine g_v (.free rfl) rfl rfl (qt_assign rfl rfl) ?_
            refine g_nil ?_
            refine gk_then (hK24 _ _ ?_)
            refine gc_block ?_
            try simp only [List.nil_append, List.cons_append, List.append_assoc, List.set_cons_succ, List.set_cons_zero]
            refine gc_loop ([(0, _), (2, _), (4, _), (16, _), (21, _), (41, _)] : Env) (fun s : Nat => (fun (l : Nat) => ([(5, .int .i64 (l : Int))] : Env)) s) (fun s : Nat => (fun (l : Nat) => ([] : List (Nat × Itm))) s) (fun s : Nat => (fun (l : Nat) => l ≤ r.length ∧ ∀ j : Nat, j < l → ∀ m : Nat, m < r.length → asc r k j m) s) (fun s : Nat => (fun (l : Nat) => r.length - l) s) (0) (sub_cons rfl (sub_cons rfl (sub_cons rfl (sub_cons rfl (sub_cons rfl (sub_cons rfl (sub_cons rfl sub_nil))))))) rfl ⟨Nat.zero_le _, fun f hf => absurd hf (by omega)⟩ ?_
            rintro l hinv KL25 hKL25
            simp only [updL, List.foldl_cons, List.foldl_nil, List.set_cons_succ, List.set_cons_zero, List.cons_append, List.nil_append] at hinv hKL25 ⊢
            obtain ⟨hl, hin⟩ := hinv
            refine gc_seq fun K26 hK26 => ?_
            refine gc_seq fun K27 hK27 => ?_
            refine gc_region ?_
            refine g_v (.free rfl) rfl rfl (qt_move rfl rfl) ?_
            refine g_v (.free rfl) rfl rfl (qt_move rfl rfl) ?_
            refine g_v (.free rfl) rfl rfl (qt_len rfl rfl ulE2 (fun w M => lenV_rd2 hu)) ?_
            refine g_v (.free rfl) rfl rfl (qt_lss rfl rfl rfl) ?_
            refine g_nil ?_
            refine gk_then (hK27 _ _ ?_)
            refine gc_cond rfl (fun hc3 => ?_) (fun hc3 => ?_)
            · try simp only [decide_eq_true_eq, decide_eq_false_iff_not, Bool.not_eq_true', Bool.not_eq_false', Bool.not_eq_eq_eq_not, Bool.not_true, Bool.not_false, ne_eq, Decidable.not_not, Classical.not_not] at hc3
              refine gc_skip ?_
              refine gk_then (hK26 _ _ ?_)
              refine gc_seq fun K28 hK28 => ?_
              refine gc_block ?_
              refine gc_seq fun K29 hK29 => ?_
              refine gc_region ?_
              refine g_v (.free rfl) rfl rfl (qt_assign rfl rfl) ?_
              refine g_nil ?_
              refine gk_then (hK29 _ _ ?_)
              refine gc_block ?_
              try simp only [List.nil_append, List.cons_append, List.append_assoc, List.set_cons_succ, List.set_cons_zero]
              refine gc_loop ([(0, _), (2, _), (4, _), (5, _), (16, _), (21, _), (41, _), (46, _)] : Env) (fun s : Nat => (fun (m : Nat) => ([(6, .int .i64 (m : Int))] : Env)) s) (fun s : Nat => (fun (m : Nat) => ([] : List (Nat × Itm))) s) (fun s : Nat => (fun (m : Nat) => m ≤ r.length ∧ ∀ x : Nat, x < m → asc r k l x) s) (fun s : Nat => (fun (m : Nat) => r.length - m) s) (0) (sub_cons rfl (sub_cons rfl (sub_cons rfl (sub_cons rfl (sub_cons rfl (sub_cons rfl (sub_cons rfl (sub_cons rfl (sub_cons rfl sub_nil))))))))) rfl ⟨Nat.zero_le _, fun f hf => absurd hf (by omega)⟩ ?_
              rintro m hinv KL30 hKL30
              simp only [updL, List.foldl_cons, List.foldl_nil, List.set_cons_succ, List.set_cons_zero, List.cons_append, List.nil_append] at hinv hKL30 ⊢
              obtain ⟨hm, him⟩ := hinv
              refine gc_seq fun K31 hK31 => ?_
              refine gc_seq fun K32 hK32 => ?_
              refine gc_region ?_
              refine g_v (.free rfl) rfl rfl (qt_move rfl rfl) ?_
              refine g_v (.free rfl) rfl rfl (qt_move rfl rfl) ?_
              refine g_v (.free rfl) rfl rfl (qt_len rfl rfl ulE2 (fun w M => lenV_rd2 hu)) ?_
              refine g_v (.free rfl) rfl rfl (qt_lss rfl rfl rfl) ?_
              refine g_nil ?_
              refine gk_then (hK32 _ _ ?_)
              refine gc_cond rfl (fun hc4 => ?_) (fun hc4 => ?_)
              · try simp only [decide_eq_true_eq, decide_eq_false_iff_not, Bool.not_eq_true', Bool.not_eq_false', Bool.not_eq_eq_eq_not, Bool.not_true, Bool.not_false, ne_eq, Decidable.not_not, Classical.not_not] at hc4
                refine gc_skip ?_
                refine gk_then (hK31 _ _ ?_)
                refine gc_seq fun K33 hK33 => ?_
                refine gc_block ?_
                refine gc_seq fun K34 hK34 => ?_
                have hq1 := (hsq k (by omega)).1
                have hq2 := (hsq l (by omega)).1
                have hq3 := sq_at hsq (i := k) (j := l) (by omega) (by omega)
                have hq4 := sq_at hsq (i := l) (j := m) (by omega) (by omega)
                have hq5 : (row2 r (at0 (row2 r (k : Int)) (l : Int))).length = r.length := sq_rowI hsq hq3.1 hq3.2
                refine gc_draw (by kernel_rfl) ?_
                refine gd_v (.free rfl) rfl rfl (qt_move rfl rfl) ?_
                refine gd_v (.free rfl) rfl rfl (qt_move rfl rfl) ?_
                refine gd_v (.free rfl) rfl rfl (qt_move rfl rfl) ?_
                refine gd_v (.free rfl) rfl rfl (qt_index rfl rfl rfl ulE2 szE2 (fun w M => lenA_rd2 hu) (by omega) (by omega)) ?_
                refine gd_load2 (.free rfl) rfl rfl rfl rfl Try.underlying22 rfl hu (by omega) (by omega) ?_
                intro ra35 rc35 hr35
                refine gd_v (.free rfl) rfl rfl (qt_move rfl rfl) ?_
                refine gd_v (.free rfl) rfl rfl (qt_index rfl rfl rfl ulE1 szE1 (fun w M => lenA_rd hr35) (by omega) (by omega)) ?_
                refine gd_v (.free rfl) rfl rfl (qt_load1 rfl rfl Try.underlying2 rfl (fun w M => mem_rd M hr35) (by omega) (by omega)) ?_
                refine gd_v (.free rfl) rfl rfl (qt_index rfl rfl rfl ulE2 szE2 (fun w M => lenA_rd2 hu) (by omega) (by omega)) ?_
                refine gd_load2 (.free rfl) rfl rfl rfl rfl Try.underlying22 rfl hu (by omega) (by omega) ?_
                intro ra36 rc36 hr36
                refine gd_v (.free rfl) rfl rfl (qt_move rfl rfl) ?_
                refine gd_v (.free rfl) rfl rfl (qt_index rfl rfl rfl ulE1 szE1 (fun w M => lenA_rd hr36) (by omega) (by omega)) ?_
                refine gd_v (.free rfl) rfl rfl (qt_load1 rfl rfl Try.underlying2 rfl (fun w M => mem_rd M hr36) (by omega) (by omega)) ?_
                refine gd_v (.free rfl) rfl rfl (qt_move rfl rfl) ?_
                refine gd_v (.free rfl) rfl rfl (qt_move rfl rfl) ?_
                refine gd_v (.free rfl) rfl rfl (qt_index rfl rfl rfl ulE2 szE2 (fun w M => lenA_rd2 hu) (by omega) (by omega)) ?_
                refine gd_load2 (.free rfl) rfl rfl rfl rfl Try.underlying22 rfl hu (by omega) (by omega) ?_
                intro ra37 rc37 hr37
                refine gd_v (.free rfl) rfl rfl (qt_move rfl rfl) ?_
                refine gd_v (.free rfl) rfl rfl (qt_move rfl rfl) ?_
                refine gd_v (.free rfl) rfl rfl (qt_index rfl rfl rfl ulE2 szE2 (fun w M => lenA_rd2 hu) (by omega) (by omega)) ?_
                refine gd_load2 (.free rfl) rfl rfl rfl rfl Try.underlying22 rfl hu (by omega) (by omega) ?_
                intro ra38 rc38 hr38
                refine gd_v (.free rfl) rfl rfl (qt_move rfl rfl) ?_
                refine gd_v (.free rfl) rfl rfl (qt_index rfl rfl rfl ulE1 szE1 (fun w M => lenA_rd hr38) (by omega) (by omega)) ?_
                refine gd_v (.free rfl) rfl rfl (qt_load1 rfl rfl Try.underlying2 rfl (fun w M => mem_rd M hr38) (by omega) (by omega)) ?_
                refine gd_v (.free rfl) rfl rfl (qt_index rfl rfl rfl ulE1 szE1 (fun w M => lenA_rd hr37) (by omega) (by omega)) ?_
                refine gd_v (.free rfl) rfl rfl (qt_load1 rfl rfl Try.underlying2 rfl (fun w M => mem_rd M hr37) (by omega) (by omega)) ?_
                refine gd_v (.free rfl) rfl rfl (qt_neq rfl rfl rfl) ?_
                refine gd_nil ?_
                refine gk_then (hK34 _ _ ?_)
                refine gc_cond rfl (fun hc5 => ?_) (fun hc5 => ?_)
                · try simp only [decide_eq_true_eq, decide_eq_false_iff_not, Bool.not_eq_true', Bool.not_eq_false', Bool.not_eq_eq_eq_not, Bool.not_true, Bool.not_false, ne_eq, Decidable.not_not, Classical.not_not] at hc5
                  refine gc_seq fun K39 hK39 => ?_
                  refine gc_region ?_
                  refine g_v (.free rfl) rfl rfl (qt_build rfl rfl bt0_Category) ?_
                  refine g_op (.free rfl) fun K40 hK40 => ?_
                  refine go_storeS (n := 0) rfl rfl rfl rfl (by kernel_rfl) rfl rfl rfl ?_
                  refine hK40 _ _ ?_
                  refine g_v (.free rfl) rfl rfl (qt_assign rfl rfl) ?_
                  refine g_nil ?_
                  refine gk_then (hK39 _ _ ?_)
                  refine gc_ret ?_
                  refine gk_block_ret ?_
                  refine gk_then_ret ?_
                  refine gk_then_ret ?_
                  refine gk_block_ret ?_
                  refine gk_block_ret ?_
                  refine gk_then_ret ?_
                  refine gk_then_ret ?_
                  refine gk_block_ret ?_
                  refine gk_block_ret ?_
                  refine gk_then_ret ?_
                  refine gk_then_ret ?_
                  refine gk_block_ret ?_
                  refine gk_then_ret ?_
                  refine ret_SI (n := 0) rfl rfl rfl Try.underlying25 rfl (by kernel_rfl) rfl (fun w M => ?_)
                  rw [mon_n (fun h => hc5 (h.2.2 k (by omega) l (by omega) m (by omega)))]; exact ⟨_, rfl, ownC_zero _ _, M.1⟩
                · try simp only [decide_eq_true_eq, decide_eq_false_iff_not, Bool.not_eq_true', Bool.not_eq_false', Bool.not_eq_eq_eq_not, Bool.not_true, Bool.not_false, ne_eq, Decidable.not_not, Classical.not_not] at hc5
                  refine gc_skip ?_
                  refine gk_block ?_
                  refine gk_then (hK33 _ _ ?_)
                  refine gc_region ?_
                  refine g_v (.free rfl) rfl rfl (qt_move rfl rfl) ?_
                  refine g_v (.free rfl) rfl rfl (qt_add rfl rfl rfl (by omega)) ?_
                  refine g_v (.free rfl) rfl rfl (qt_assign rfl rfl) ?_
                  refine g_nil ?_
                  refine gk_then (gk_take 1 ?_)
                  refine gk_sub ?hs_41 (hKL30 (m + 1) ?hi_41 ?hm_41)
                  case hs_41 => exact (sub_cons rfl (sub_cons rfl (sub_cons rfl (sub_cons rfl (sub_cons rfl (sub_cons rfl (sub_cons rfl (sub_cons rfl (sub_cons rfl sub_nil)))))))))
                  case hi_41 => exact ⟨by omega, all_next him hc5⟩
                  case hm_41 => omega
              · try simp only [decide_eq_true_eq, decide_eq_false_iff_not, Bool.not_eq_true', Bool.not_eq_false', Bool.not_eq_eq_eq_not, Bool.not_true, Bool.not_false, ne_eq, Decidable.not_not, Classical.not_not] at hc4
                refine gc_exit ?_
                refine gk_then_exit ?_
                refine gk_then_exit ?_
                refine gk_block_hit ?_
                refine gk_block ?_
                refine gk_then (hK28 _ _ ?_)
                refine gc_region ?_
                refine g_v (.free rfl) rfl rfl (qt_move rfl rfl) ?_
                refine g_v (.free rfl) rfl rfl (qt_add rfl rfl rfl (by omega)) ?_
                refine g_v (.free rfl) rfl rfl (qt_assign rfl rfl) ?_
                refine g_nil ?_
                refine gk_then (gk_take 1 ?_)
                refine gk_sub ?hs_42 (hKL25 (l + 1) ?hi_42 ?hm_42)
                case hs_42 => exact (sub_cons rfl (sub_cons rfl (sub_cons rfl (sub_cons rfl (sub_cons rfl (sub_cons rfl (sub_cons rfl sub_nil)))))))
                case hi_42 => exact ⟨by omega, all_next hin fun m hm => him m (by omega)⟩
                case hm_42 => omega
            · try simp only [decide_eq_true_eq, decide_eq_false_iff_not, Bool.not_eq_true', Bool.not_eq_false', Bool.not_eq_eq_eq_not, Bool.not_true, Bool.not_false, ne_eq, Decidable.not_not, Classical.not_not] at hc3
              refine gc_exit ?_
              refine gk_then_exit ?_
              refine gk_then_exit ?_
              refine gk_block_hit ?_
              refine gk_block ?_
              refine gk_then (hK15 _ _ ?_)
              refine gc_region ?_
              refine g_v (.free rfl) rfl rfl (qt_move rfl rfl) ?_
              refine g_v (.free rfl) rfl rfl (qt_add rfl rfl rfl (by omega)) ?_
              refine g_v (.free rfl) rfl rfl (qt_assign rfl rfl) ?_
              refine g_nil ?_
              refine gk_then (gk_take 1 ?_)
              refine gk_sub ?hs_43 (hKL12 (k + 1) ?hi_43 ?hm_43)
              case hs_43 => exact (sub_cons rfl (sub_cons rfl (sub_cons rfl (sub_cons rfl sub_nil))))
              case hi_43 => exact ⟨by omega, all_next hall ⟨⟨hs6_8, hc2⟩, fun j hj => hin j (by omega)⟩⟩
              case hm_43 => omega
      · try simp only [decide_eq_true_eq, decide_eq_false_iff_not, Bool.not_eq_true', Bool.not_eq_false', Bool.not_eq_eq_eq_not, Bool.not_true, Bool.not_false, ne_eq, Decidable.not_not, Classical.not_not] at hc1
        refine gc_exit ?_
        refine gk_then_exit ?_
        refine gk_then_exit ?_
        refine gk_block_hit ?_
        refine gk_then (hK10 _ _ ?_)
        refine gc_seq fun K44 hK44 => ?_
        obtain rfl : k = r.length := by omega
        refine gc_region ?_
        refine g_v (.free rfl) rfl rfl (qt_move rfl rfl) ?_
        refine g_op (.free rfl) fun K46 hK46 => ?_
        refine go_callC rfl rfl rfl Try.func35 rfl (by decide) rfl (fun w M => specMonoidC_any w _ _ (mem_rd2 M hu)) ?_
        intro ca45 cb45 cc45 cd45 ce45 cf45 cg45 ch45 cu45
        refine hK46 _ _ ?_
        refine g_q (.free rfl) rfl rfl (qt_call rfl Try.func26 rfl (by decide) rfl (fun w M => specMade_t w _ _ (rdC_mk ((mem_own1 (n := 1) M rfl).rd) ((mem_own1 (n := 2) M rfl).rd) ((mem_own1 (n := 3) M rfl).rd) (mem_rdU (n := 4) M rfl)) (hf))) ?_
        refine g_v (.free rfl) rfl rfl (qt_extract rfl rfl rfl) ?_
        refine g_v (.free rfl) rfl rfl (qt_extract rfl rfl rfl) ?_
        refine g_op (.free rfl) fun K47 hK47 => ?_
        refine go_storeS (n := 0) rfl rfl rfl rfl (by kernel_rfl) rfl rfl rfl ?_
        refine hK47 _ _ ?_
        refine g_v (.free rfl) rfl rfl (qt_assign rfl rfl) ?_
        refine g_nil ?_
        refine gk_then (hK44 _ _ ?_)
        refine gc_ret ?_
        refine ret_SI (n := 0) rfl rfl rfl Try.underlying25 rfl (by kernel_rfl) rfl (fun w M => ?_)
        have hM : MonP r := ⟨⟨hr0, hsq⟩, fun i hi => (hall i hi).1, fun i hi => (hall i hi).2⟩
        rw [mon_t hM (mon_fit.1 hf)]; exact ⟨_, rfl, ownC_star (c := monC r) (mem_pick (n := 4) (mem_pick (n := 4) (mem_pick (n := 4) (mem_pick (n := 4) (M) rfl) rfl) rfl) rfl).2, M.1⟩

set_option maxHeartbeats 1000000 in
set_option maxRecDepth 100000 in
theorem specMon_f (w : World) (u : Value) (r : List (List Int)) (hu : Rd2 w u r) (hf : ¬ FitP (monC r)) :
    Calls Try.prog 13 #[u] w (RetCI w (fMonoidCategory r).1 (fMonoidCategory r).2) := by
  obtain ⟨ua, uc, rfl⟩ := rd2_form hu
  have hul := rd2_len hu
  go_enter Try.func13, Try.ntmps13
  refine gc_enter (N := 88) rfl (look_cons (k := 0) rfl (look_nil _)) ?_
  refine gc_seq fun K1 hK1 => ?_
  refine gc_region ?_
  refine g_op (.free rfl) fun K3 hK3 => ?_
  refine go_alloc (z := (.agg #[.int .i64 0, .slice none 0 0, .slice none 0 0, .slice none 0 0, .slice none 0 0])) (cs := [.int .i64 0, .slice none 0 0, .slice none 0 0, .slice none 0 0, .slice none 0 0]) rfl rfl rfl (fun w => by kernel_rfl) rfl ?_
  intro B2
  refine hK3 _ _ ?_
  refine g_v (.free rfl) rfl rfl (qt_assign rfl rfl) ?_
  refine g_nil ?_
  refine gk_then (hK1 _ _ ?_)
  refine gc_seq fun K4 hK4 => ?_
  refine gc_seq fun K5 hK5 => ?_
  refine gc_region ?_
  refine g_v (.free rfl) rfl rfl (qt_move rfl rfl) ?_
  refine g_v (.free rfl) rfl rfl (qt_len rfl rfl ulE2 (fun w M => lenV_rd2 hu)) ?_
  refine g_v (.free rfl) rfl rfl (qt_eql rfl rfl rfl) ?_
  refine g_splitv (.free rfl) rfl rfl (qt_move rfl rfl) (fun hs1_3 => ?_) (fun hs1_3 => ?_)
  · try simp only [decide_eq_true_eq, decide_eq_false_iff_not, Bool.not_eq_true', Bool.not_eq_false', Bool.not_eq_eq_eq_not, Bool.not_true, Bool.not_false, ne_eq, Decidable.not_not, Classical.not_not] at hs1_3
    refine g_skip (.not _ _ _ _ rfl rfl rfl rfl) rfl rfl ?_
    refine g_skip (.not _ _ _ _ rfl rfl rfl rfl) rfl rfl ?_
    refine g_skip (.not _ _ _ _ rfl rfl rfl rfl) rfl rfl ?_
    refine g_skip (.not _ _ _ _ rfl rfl rfl rfl) rfl rfl ?_
    refine g_skip (.not _ _ _ _ rfl rfl rfl rfl) rfl rfl ?_
    refine g_v (.free rfl) rfl rfl (qt_pick_t rfl rfl rfl) ?_
    refine g_nil ?_
    refine gk_then (hK5 _ _ ?_)
    refine gc_cond_t rfl ?_
    refine gc_seq fun K6 hK6 => ?_
    refine gc_region ?_
    refine g_v (.free rfl) rfl rfl (qt_build rfl rfl bt0_Category) ?_
    refine g_op (.free rfl) fun K7 hK7 => ?_
    refine go_storeS (n := 0) rfl rfl rfl rfl (by kernel_rfl) rfl rfl rfl ?_
    refine hK7 _ _ ?_
    refine g_v (.free rfl) rfl rfl (qt_assign rfl rfl) ?_
    refine g_nil ?_
    refine gk_then (hK6 _ _ ?_)
    refine gc_ret ?_
    refine gk_then_ret ?_
    refine ret_SI (n := 0) rfl rfl rfl Try.underlying25 rfl (by kernel_rfl) rfl (fun w M => ?_)
    rw [mon_n (fun h => by have := h.1.1; omega)]; exact ⟨_, rfl, ownC_zero _ _, M.1⟩
  · try simp only [decide_eq_true_eq, decide_eq_false_iff_not, Bool.not_eq_true', Bool.not_eq_false', Bool.not_eq_eq_eq_not, Bool.not_true, Bool.not_false, ne_eq, Decidable.not_not, Classical.not_not] at hs1_3
    refine g_v (.held _ _ _ rfl rfl rfl) rfl rfl (qt_move rfl rfl) ?_
    refine g_v (.held _ _ _ rfl rfl rfl) rfl rfl (qt_move rfl rfl) ?_
    refine g_v (.held _ _ _ rfl rfl rfl) rfl rfl (qt_len rfl rfl ulE2 (fun w M => lenV_rd2 hu)) ?_
    refine g_q (.held _ _ _ rfl rfl rfl) rfl rfl (qt_call rfl Try.func34 rfl (by decide) rfl (fun w M => specSquare_any w _ _ _ (mem_rd2 M hu))) ?_
    refine g_v (.held _ _ _ rfl rfl rfl) rfl rfl (qt_not rfl rfl) ?_
    refine g_v (.free rfl) rfl rfl (qt_pick_f rfl rfl rfl) ?_
    refine g_nil ?_
    refine gk_then (hK5 _ _ ?_)
    refine gc_cond rfl (fun hc0 => ?_) (fun hc0 => ?_)
    · try simp only [decide_eq_true_eq, decide_eq_false_iff_not, Bool.not_eq_true', Bool.not_eq_false', Bool.not_eq_eq_eq_not, Bool.not_true, Bool.not_false, ne_eq, Decidable.not_not, Classical.not_not] at hc0
      refine gc_seq fun K8 hK8 => ?_
      refine gc_region ?_
      refine g_v (.free rfl) rfl rfl (qt_build rfl rfl bt0_Category) ?_
      refine g_op (.free rfl) fun K9 hK9 => ?_
      refine go_storeS (n := 0) rfl rfl rfl rfl (by kernel_rfl) rfl rfl rfl ?_
      refine hK9 _ _ ?_
      refine g_v (.free rfl) rfl rfl (qt_assign rfl rfl) ?_
      refine g_nil ?_
      refine gk_then (hK8 _ _ ?_)
      refine gc_ret ?_
      refine gk_then_ret ?_
      refine ret_SI (n := 0) rfl rfl rfl Try.underlying25 rfl (by kernel_rfl) rfl (fun w M => ?_)
      rw [mon_n (fun h => bP_f' hc0 h.1.2)]; exact ⟨_, rfl, ownC_zero _ _, M.1⟩
    · try simp only [decide_eq_true_eq, decide_eq_false_iff_not, Bool.not_eq_true', Bool.not_eq_false', Bool.not_eq_eq_eq_not, Bool.not_true, Bool.not_false, ne_eq, Decidable.not_not, Classical.not_not] at hc0
      refine gc_skip ?_
      refine gk_then (hK4 _ _ ?_)
      refine gc_seq fun K10 hK10 => ?_
      refine gc_seq fun K11 hK11 => ?_
      have hsq : SquareP r r.length := bP_t' hc0
      have hr0 : 0 < r.length := by omega
      refine gc_region ?_
      refine g_v (.free rfl) rfl rfl (qt_assign rfl rfl) ?_
      refine g_nil ?_
      refine gk_then (hK11 _ _ ?_)
      refine gc_block ?_
      try simp only [List.nil_append, List.cons_append, List.append_assoc, List.set_cons_succ, List.set_cons_zero]
      refine gc_loop ([(0, _), (2, _), (16, _)] : Env) (fun s : Nat => (fun (k : Nat) => ([(4, .int .i64 (k : Int))] : Env)) s) (fun s : Nat => (fun (k : Nat) => ([] : List (Nat × Itm))) s) (fun s : Nat => (fun (k : Nat) => k ≤ r.length ∧ ∀ i : Nat, i < k → UnitRow r i ∧ AscRow r i) s) (fun s : Nat => (fun (k : Nat) => r.length - k) s) (0) (sub_cons rfl (sub_cons rfl (sub_cons rfl (sub_cons rfl sub_nil)))) rfl ⟨Nat.zero_le _, fun f hf => absurd hf (by omega)⟩ ?_
      rintro k hinv KL12 hKL12
      simp only [updL, List.foldl_cons, List.foldl_nil, List.set_cons_succ, List.set_cons_zero, List.cons_append, List.nil_append] at hinv hKL12 ⊢
      obtain ⟨hk, hall⟩ := hinv
      refine gc_seq fun K13 hK13 => ?_
      refine gc_seq fun K14 hK14 => ?_
      refine gc_region ?_
      refine g_v (.free rfl) rfl rfl (qt_move rfl rfl) ?_
      refine g_v (.free rfl) rfl rfl (qt_move rfl rfl) ?_
      refine g_v (.free rfl) rfl rfl (qt_len rfl rfl ulE2 (fun w M => lenV_rd2 hu)) ?_
      refine g_v (.free rfl) rfl rfl (qt_lss rfl rfl rfl) ?_
      refine g_nil ?_
      refine gk_then (hK14 _ _ ?_)
      refine gc_cond rfl (fun hc1 => ?_) (fun hc1 => ?_)
      · try simp only [decide_eq_true_eq, decide_eq_false_iff_not, Bool.not_eq_true', Bool.not_eq_false', Bool.not_eq_eq_eq_not, Bool.not_true, Bool.not_false, ne_eq, Decidable.not_not, Classical.not_not] at hc1
        refine gc_skip ?_
        refine gk_then (hK13 _ _ ?_)
        refine gc_seq fun K15 hK15 => ?_
        refine gc_block ?_
        refine gc_seq fun K16 hK16 => ?_
        refine gc_seq fun K17 hK17 => ?_
        have hq1 := (hsq k (by omega)).1
        have hq0 : (row2 r 0).length = r.length := sq_rowI hsq (by omega) (by omega)
        refine gc_region ?_
        refine g_v (.free rfl) rfl rfl (qt_move rfl rfl) ?_
        refine g_v (.free rfl) rfl rfl (qt_index rfl rfl rfl ulE2 szE2 (fun w M => lenA_rd2 hu) (by omega) (by omega)) ?_
        refine g_load2 (.free rfl) rfl rfl rfl rfl Try.underlying22 rfl hu (by omega) (by omega) ?_
        intro ra18 rc18 hr18
        refine g_v (.free rfl) rfl rfl (qt_move rfl rfl) ?_
        refine g_v (.free rfl) rfl rfl (qt_index rfl rfl rfl ulE1 szE1 (fun w M => lenA_rd hr18) (by omega) (by omega)) ?_
        refine g_v (.free rfl) rfl rfl (qt_load1 rfl rfl Try.underlying2 rfl (fun w M => mem_rd M hr18) (by omega) (by omega)) ?_
        refine g_v (.free rfl) rfl rfl (qt_move rfl rfl) ?_
        refine g_v (.free rfl) rfl rfl (qt_neq rfl rfl rfl) ?_
        refine g_splitv (.free rfl) rfl rfl (qt_move rfl rfl) (fun hs6_8 => ?_) (fun hs6_8 => ?_)
        · try simp only [decide_eq_true_eq, decide_eq_false_iff_not, Bool.not_eq_true', Bool.not_eq_false', Bool.not_eq_eq_eq_not, Bool.not_true, Bool.not_false, ne_eq, Decidable.not_not, Classical.not_not] at hs6_8
          refine g_skip (.not _ _ _ _ rfl rfl rfl rfl) rfl rfl ?_
          refine g_skip (.not _ _ _ _ rfl rfl rfl rfl) rfl rfl ?_
          refine g_skip (.not _ _ _ _ rfl rfl rfl rfl) rfl rfl ?_
          refine g_skip (.not _ _ _ _ rfl rfl rfl rfl) rfl rfl ?_
          refine g_skip (.not _ _ _ _ rfl rfl rfl rfl) rfl rfl ?_
          refine g_skip (.not _ _ _ _ rfl rfl rfl rfl) rfl rfl ?_
          refine g_skip (.not _ _ _ _ rfl rfl rfl rfl) rfl rfl ?_
          refine g_skip (.not _ _ _ _ rfl rfl rfl rfl) rfl rfl ?_
          refine g_v (.free rfl) rfl rfl (qt_pick_t rfl rfl rfl) ?_
          refine g_nil ?_
          refine gk_then (hK17 _ _ ?_)
          refine gc_cond_t rfl ?_
          refine gc_seq fun K19 hK19 => ?_
          refine gc_region ?_
          refine g_v (.free rfl) rfl rfl (qt_build rfl rfl bt0_Category) ?_
          refine g_op (.free rfl) fun K20 hK20 => ?_
          refine go_storeS (n := 0) rfl rfl rfl rfl (by kernel_rfl) rfl rfl rfl ?_
          refine hK20 _ _ ?_
          refine g_v (.free rfl) rfl rfl (qt_assign rfl rfl) ?_
          refine g_nil ?_
          refine gk_then (hK19 _ _ ?_)
          refine gc_ret ?_
          refine gk_then_ret ?_
          refine gk_block_ret ?_
          refine gk_then_ret ?_
          refine gk_then_ret ?_
          refine gk_block_ret ?_
          refine gk_then_ret ?_
          refine ret_SI (n := 0) rfl rfl rfl Try.underlying25 rfl (by kernel_rfl) rfl (fun w M => ?_)
          rw [mon_n (fun h => hs6_8 (h.2.1 k (by omega)).1)]; exact ⟨_, rfl, ownC_zero _ _, M.1⟩
        · try simp only [decide_eq_true_eq, decide_eq_false_iff_not, Bool.not_eq_true', Bool.not_eq_false', Bool.not_eq_eq_eq_not, Bool.not_true, Bool.not_false, ne_eq, Decidable.not_not, Classical.not_not] at hs6_8
          refine g_v (.held _ _ _ rfl rfl rfl) rfl rfl (qt_move rfl rfl) ?_
          refine g_v (.held _ _ _ rfl rfl rfl) rfl rfl (qt_move rfl rfl) ?_
          refine g_v (.held _ _ _ rfl rfl rfl) rfl rfl (qt_index rfl rfl rfl ulE2 szE2 (fun w M => lenA_rd2 hu) (by omega) (by omega)) ?_
          refine g_load2 (.held _ _ _ rfl rfl rfl) rfl rfl rfl rfl Try.underlying22 rfl hu (by omega) (by omega) ?_
          intro ra21 rc21 hr21
          refine g_v (.held _ _ _ rfl rfl rfl) rfl rfl (qt_index rfl rfl rfl ulE1 szE1 (fun w M => lenA_rd hr21) (by omega) (by omega)) ?_
          refine g_v (.held _ _ _ rfl rfl rfl) rfl rfl (qt_load1 rfl rfl Try.underlying2 rfl (fun w M => mem_rd M hr21) (by omega) (by omega)) ?_
          refine g_v (.held _ _ _ rfl rfl rfl) rfl rfl (qt_move rfl rfl) ?_
          refine g_v (.held _ _ _ rfl rfl rfl) rfl rfl (qt_neq rfl rfl rfl) ?_
          refine g_v (.free rfl) rfl rfl (qt_pick_f rfl rfl rfl) ?_
          refine g_nil ?_
          refine gk_then (hK17 _ _ ?_)
          refine gc_cond rfl (fun hc2 => ?_) (fun hc2 => ?_)
          · try simp only [decide_eq_true_eq, decide_eq_false_iff_not, Bool.not_eq_true', Bool.not_eq_false', Bool.not_eq_eq_eq_not, Bool.not_true, Bool.not_false, ne_eq, Decidable.not_not, Classical.not_not] at hc2
            refine gc_seq fun K22 hK22 => ?_
            refine gc_region ?_
            refine g_v (.free rfl) rfl rfl (qt_build rfl rfl bt0_Category) ?_
            refine g_op (.free rfl) fun K23 hK23 => ?_
            refine go_storeS (n := 0) rfl rfl rfl rfl (by kernel_rfl) rfl rfl rfl ?_
            refine hK23 _ _ ?_
            refine g_v (.free rfl) rfl rfl (qt_assign rfl rfl) ?_
            refine g_nil ?_
            refine gk_then (hK22 _ _ ?_)
            refine gc_ret ?_
            refine gk_then_ret ?_
            refine gk_block_ret ?_
            refine gk_then_ret ?_
            refine gk_then_ret ?_
            refine gk_block_ret ?_
            refine gk_then_ret ?_
            refine ret_SI (n := 0) rfl rfl rfl Try.underlying25 rfl (by kernel_rfl) rfl (fun w M => ?_)
            rw [mon_n (fun h => hc2 (h.2.1 k (by omega)).2)]; exact ⟨_, rfl, ownC_zero _ _, M.1⟩
          · try simp only [decide_eq_true_eq, decide_eq_false_iff_not, Bool.not_eq_true', Bool.not_eq_false', Bool.not_eq_eq_eq_not, Bool.not_true, Bool.not_false, ne_eq, Decidable.not_not, Classical.not_not] at hc2
            refine gc_skip ?_
            refine gk_then (hK16 _ _ ?_)
            refine gc_seq fun K24 hK24 => ?_
            refine gc_region ?_
            refine g_v (.free rfl) rfl rfl (qt_assign rfl rfl) ?_
            refine g_nil ?_
            refine gk_then (hK24 _ _ ?_)
            refine gc_block ?_
            try simp only [List.nil_append, List.cons_append, List.append_assoc, List.set_cons_succ, List.set_cons_zero]
            refine gc_loop ([(0, _), (2, _), (4, _), (16, _), (21, _), (41, _)] : Env) (fun s : Nat => (fun (l : Nat) => ([(5, .int .i64 (l : Int))] : Env)) s) (fun s : Nat => (fun (l : Nat) => ([] : List (Nat × Itm))) s) (fun s : Nat => (fun (l : Nat) => l ≤ r.length ∧ ∀ j : Nat, j < l → ∀ m : Nat, m < r.length → asc r k j m) s) (fun s : Nat => (fun (l : Nat) => r.length - l) s) (0) (sub_cons rfl (sub_cons rfl (sub_cons rfl (sub_cons rfl (sub_cons rfl (sub_cons rfl (sub_cons rfl sub_nil))))))) rfl ⟨Nat.zero_le _, fun f hf => absurd hf (by omega)⟩ ?_
            rintro l hinv KL25 hKL25
            simp only [updL, List.foldl_cons, List.foldl_nil, List.set_cons_succ, List.set_cons_zero, List.cons_append, List.nil_append] at hinv hKL25 ⊢
            obtain ⟨hl, hin⟩ := hinv
            refine gc_seq fun K26 hK26 => ?_
            refine gc_seq fun K27 hK27 => ?_
            refine gc_region ?_
            refine g_v (.free rfl) rfl rfl (qt_move rfl rfl) ?_
            refine g_v (.free rfl) rfl rfl (qt_move rfl rfl) ?_
            refine g_v (.free rfl) rfl rfl (qt_len rfl rfl ulE2 (fun w M => lenV_rd2 hu)) ?_
            refine g_v (.free rfl) rfl rfl (qt_lss rfl rfl rfl) ?_
            refine g_nil ?_
            refine gk_then (hK27 _ _ ?_)
            refine gc_cond rfl (fun hc3 => ?_) (fun hc3 => ?_)
            · try simp only [decide_eq_true_eq, decide_eq_false_iff_not, Bool.not_eq_true', Bool.not_eq_false', Bool.not_eq_eq_eq_not, Bool.not_true, Bool.not_false, ne_eq, Decidable.not_not, Classical.not_not] at hc3
              refine gc_skip ?_
              refine gk_then (hK26 _ _ ?_)
              refine gc_seq fun K28 hK28 => ?_
              refine gc_block ?_
              refine gc_seq fun K29 hK29 => ?_
              refine gc_region ?_
              refine g_v (.free rfl) rfl rfl (qt_assign rfl rfl) ?_
              refine g_nil ?_
              refine gk_then (hK29 _ _ ?_)
              refine gc_block ?_
              try simp only [List.nil_append, List.cons_append, List.append_assoc, List.set_cons_succ, List.set_cons_zero]
              refine gc_loop ([(0, _), (2, _), (4, _), (5, _), (16, _), (21, _), (41, _), (46, _)] : Env) (fun s : Nat => (fun (m : Nat) => ([(6, .int .i64 (m : Int))] : Env)) s) (fun s : Nat => (fun (m : Nat) => ([] : List (Nat × Itm))) s) (fun s : Nat => (fun (m : Nat) => m ≤ r.length ∧ ∀ x : Nat, x < m → asc r k l x) s) (fun s : Nat => (fun (m : Nat) => r.length - m) s) (0) (sub_cons rfl (sub_cons rfl (sub_cons rfl (sub_cons rfl (sub_cons rfl (sub_cons rfl (sub_cons rfl (sub_cons rfl (sub_cons rfl sub_nil))))))))) rfl ⟨Nat.zero_le _, fun f hf => absurd hf (by omega)⟩ ?_
              rintro m hinv KL30 hKL30
              simp only [updL, List.foldl_cons, List.foldl_nil, List.set_cons_succ, List.set_cons_zero, List.cons_append, List.nil_append] at hinv hKL30 ⊢
              obtain ⟨hm, him⟩ := hinv
              refine gc_seq fun K31 hK31 => ?_
              refine gc_seq fun K32 hK32 => ?_
              refine gc_region ?_
              refine g_v (.free rfl) rfl rfl (qt_move rfl rfl) ?_
              refine g_v (.free rfl) rfl rfl (qt_move rfl rfl) ?_
              refine g_v (.free rfl) rfl rfl (qt_len rfl rfl ulE2 (fun w M => lenV_rd2 hu)) ?_
              refine g_v (.free rfl) rfl rfl (qt_lss rfl rfl rfl) ?_
              refine g_nil ?_
              refine gk_then (hK32 _ _ ?_)
              refine gc_cond rfl (fun hc4 => ?_) (fun hc4 => ?_)
              · try simp only [decide_eq_true_eq, decide_eq_false_iff_not, Bool.not_eq_true', Bool.not_eq_false', Bool.not_eq_eq_eq_not, Bool.not_true, Bool.not_false, ne_eq, Decidable.not_not, Classical.not_not] at hc4
                refine gc_skip ?_
                refine gk_then (hK31 _ _ ?_)
                refine gc_seq fun K33 hK33 => ?_
                refine gc_block ?_
                refine gc_seq fun K34 hK34 => ?_
                have hq1 := (hsq k (by omega)).1
                have hq2 := (hsq l (by omega)).1
                have hq3 := sq_at hsq (i := k) (j := l) (by omega) (by omega)
                have hq4 := sq_at hsq (i := l) (j := m) (by omega) (by omega)
                have hq5 : (row2 r (at0 (row2 r (k : Int)) (l : Int))).length = r.length := sq_rowI hsq hq3.1 hq3.2
                refine gc_draw (by kernel_rfl) ?_
                refine gd_v (.free rfl) rfl rfl (qt_move rfl rfl) ?_
                refine gd_v (.free rfl) rfl rfl (qt_move rfl rfl) ?_
                refine gd_v (.free rfl) rfl rfl (qt_move rfl rfl) ?_
                refine gd_v (.free rfl) rfl rfl (qt_index rfl rfl rfl ulE2 szE2 (fun w M => lenA_rd2 hu) (by omega) (by omega)) ?_
                refine gd_load2 (.free rfl) rfl rfl rfl rfl Try.underlying22 rfl hu (by omega) (by omega) ?_
                intro ra35 rc35 hr35
                refine gd_v (.free rfl) rfl rfl (qt_move rfl rfl) ?_
                refine gd_v (.free rfl) rfl rfl (qt_index rfl rfl rfl ulE1 szE1 (fun w M => lenA_rd hr35) (by omega) (by omega)) ?_
                refine gd_v (.free rfl) rfl rfl (qt_load1 rfl rfl Try.underlying2 rfl (fun w M => mem_rd M hr35) (by omega) (by omega)) ?_
                refine gd_v (.free rfl) rfl rfl (qt_index rfl rfl rfl ulE2 szE2 (fun w M => lenA_rd2 hu) (by omega) (by omega)) ?_
                refine gd_load2 (.free rfl) rfl rfl rfl rfl Try.underlying22 rfl hu (by omega) (by omega) ?_
                intro ra36 rc36 hr36
                refine gd_v (.free rfl) rfl rfl (qt_move rfl rfl) ?_
                refine gd_v (.free rfl) rfl rfl (qt_index rfl rfl rfl ulE1 szE1 (fun w M => lenA_rd hr36) (by omega) (by omega)) ?_
                refine gd_v (.free rfl) rfl rfl (qt_load1 rfl rfl Try.underlying2 rfl (fun w M => mem_rd M hr36) (by omega) (by omega)) ?_
                refine gd_v (.free rfl) rfl rfl (qt_move rfl rfl) ?_
                refine gd_v (.free rfl) rfl rfl (qt_move rfl rfl) ?_
                refine gd_v (.free rfl) rfl rfl (qt_index rfl rfl rfl ulE2 szE2 (fun w M => lenA_rd2 hu) (by omega) (by omega)) ?_
                refine gd_load2 (.free rfl) rfl rfl rfl rfl Try.underlying22 rfl hu (by omega) (by omega) ?_
                intro ra37 rc37 hr37
                refine gd_v (.free rfl) rfl rfl (qt_move rfl rfl) ?_
                refine gd_v (.free rfl) rfl rfl (qt_move rfl rfl) ?_
                refine gd_v (.free rfl) rfl rfl (qt_index rfl rfl rfl ulE2 szE2 (fun w M => lenA_rd2 hu) (by omega) (by omega)) ?_
                refine gd_load2 (.free rfl) rfl rfl rfl rfl Try.underlying22 rfl hu (by omega) (by omega) ?_
                intro ra38 rc38 hr38
                refine gd_v (.free rfl) rfl rfl (qt_move rfl rfl) ?_
                refine gd_v (.free rfl) rfl rfl (qt_index rfl rfl rfl ulE1 szE1 (fun w M => lenA_rd hr38) (by omega) (by omega)) ?_
                refine gd_v (.free rfl) rfl rfl (qt_load1 rfl rfl Try.underlying2 rfl (fun w M => mem_rd M hr38) (by omega) (by omega)) ?_
                refine gd_v (.free rfl) rfl rfl (qt_index rfl rfl rfl ulE1 szE1 (fun w M => lenA_rd hr37) (by omega) (by omega)) ?_
                refine gd_v (.free rfl) rfl rfl (qt_load1 rfl rfl Try.underlying2 rfl (fun w M => mem_rd M hr37) (by omega) (by omega)) ?_
                refine gd_v (.free rfl) rfl rfl (qt_neq rfl rfl rfl) ?_
                refine gd_nil ?_
                refine gk_then (hK34 _ _ ?_)
                refine gc_cond rfl (fun hc5 => ?_) (fun hc5 => ?_)
                · try simp only [decide_eq_true_eq, decide_eq_false_iff_not, Bool.not_eq_true', Bool.not_eq_false', Bool.not_eq_eq_eq_not, Bool.not_true, Bool.not_false, ne_eq, Decidable.not_not, Classical.not_not] at hc5
                  refine gc_seq fun K39 hK39 => ?_
                  refine gc_region ?_
                  refine g_v (.free rfl) rfl rfl (qt_build rfl rfl bt0_Category) ?_
                  refine g_op (.free rfl) fun K40 hK40 => ?_
                  refine go_storeS (n := 0) rfl rfl rfl rfl (by kernel_rfl) rfl rfl rfl ?_
                  refine hK40 _ _ ?_
                  refine g_v (.free rfl) rfl rfl (qt_assign rfl rfl) ?_
                  refine g_nil ?_
                  refine gk_then (hK39 _ _ ?_)
                  refine gc_ret ?_
                  refine gk_block_ret ?_
                  refine gk_then_ret ?_
                  refine gk_then_ret ?_
                  refine gk_block_ret ?_
                  refine gk_block_ret ?_
                  refine gk_then_ret ?_
                  refine gk_then_ret ?_
                  refine gk_block_ret ?_
                  refine gk_block_ret ?_
                  refine gk_then_ret ?_
                  refine gk_then_ret ?_
                  refine gk_block_ret ?_
                  refine gk_then_ret ?_
                  refine ret_SI (n := 0) rfl rfl rfl Try.underlying25 rfl (by kernel_rfl) rfl (fun w M => ?_)
                  rw [mon_n (fun h => hc5 (h.2.2 k (by omega) l (by omega) m (by omega)))]; exact ⟨_, rfl, ownC_zero _ _, M.1⟩
                · try simp only [decide_eq_true_eq, decide_eq_false_iff_not, Bool.not_eq_true', Bool.not_eq_false', Bool.not_eq_eq_eq_not, Bool.not_true, Bool.not_false, ne_eq, Decidable.not_not, Classical.not_not] at hc5
                  refine gc_skip ?_
                  refine gk_block ?_
                  refine gk_then (hK33 _ _ ?_)
                  refine gc_region ?_
                  refine g_v (.free rfl) rfl rfl (qt_move rfl rfl) ?_
                  refine g_v (.free rfl) rfl rfl (qt_add rfl rfl rfl (by omega)) ?_
                  refine g_v (.free rfl) rfl rfl (qt_assign rfl rfl) ?_
                  refine g_nil ?_
                  refine gk_then (gk_take 1 ?_)
                  refine gk_sub ?hs_41 (hKL30 (m + 1) ?hi_41 ?hm_41)
                  case hs_41 => exact (sub_cons rfl (sub_cons rfl (sub_cons rfl (sub_cons rfl (sub_cons rfl (sub_cons rfl (sub_cons rfl (sub_cons rfl (sub_cons rfl sub_nil)))))))))
                  case hi_41 => exact ⟨by omega, all_next him hc5⟩
                  case hm_41 => omega
              · try simp only [decide_eq_true_eq, decide_eq_false_iff_not, Bool.not_eq_true', Bool.not_eq_false', Bool.not_eq_eq_eq_not, Bool.not_true, Bool.not_false, ne_eq, Decidable.not_not, Classical.not_not] at hc4
                refine gc_exit ?_
                refine gk_then_exit ?_
                refine gk_then_exit ?_
                refine gk_block_hit ?_
                refine gk_block ?_
                refine gk_then (hK28 _ _ ?_)
                refine gc_region ?_
                refine g_v (.free rfl) rfl rfl (qt_move rfl rfl) ?_
                refine g_v (.free rfl) rfl rfl (qt_add rfl rfl rfl (by omega)) ?_
                refine g_v (.free rfl) rfl rfl (qt_assign rfl rfl) ?_
                refine g_nil ?_
                refine gk_then (gk_take 1 ?_)
                refine gk_sub ?hs_42 (hKL25 (l + 1) ?hi_42 ?hm_42)
                case hs_42 => exact (sub_cons rfl (sub_cons rfl (sub_cons rfl (sub_cons rfl (sub_cons rfl (sub_cons rfl (sub_cons rfl sub_nil)))))))
                case hi_42 => exact ⟨by omega, all_next hin fun m hm => him m (by omega)⟩
                case hm_42 => omega
            · try simp only [decide_eq_true_eq, decide_eq_false_iff_not, Bool.not_eq_true', Bool.not_eq_false', Bool.not_eq_eq_eq_not, Bool.not_true, Bool.not_false, ne_eq, Decidable.not_not, Classical.not_not] at hc3
              refine gc_exit ?_
              refine gk_then_exit ?_
              refine gk_then_exit ?_
              refine gk_block_hit ?_
              refine gk_block ?_
              refine gk_then (hK15 _ _ ?_)
              refine gc_region ?_
              refine g_v (.free rfl) rfl rfl (qt_move rfl rfl) ?_
              refine g_v (.free rfl) rfl rfl (qt_add rfl rfl rfl (by omega)) ?_
              refine g_v (.free rfl) rfl rfl (qt_assign rfl rfl) ?_
              refine g_nil ?_
              refine gk_then (gk_take 1 ?_)
              refine gk_sub ?hs_43 (hKL12 (k + 1) ?hi_43 ?hm_43)
              case hs_43 => exact (sub_cons rfl (sub_cons rfl (sub_cons rfl (sub_cons rfl sub_nil))))
              case hi_43 => exact ⟨by omega, all_next hall ⟨⟨hs6_8, hc2⟩, fun j hj => hin j (by omega)⟩⟩
              case hm_43 => omega
      · try simp only [decide_eq_true_eq, decide_eq_false_iff_not, Bool.not_eq_true', Bool.not_eq_false', Bool.not_eq_eq_eq_not, Bool.not_true, Bool.not_false, ne_eq, Decidable.not_not, Classical.not_not] at hc1
        refine gc_exit ?_
        refine gk_then_exit ?_
        refine gk_then_exit ?_
        refine gk_block_hit ?_
        refine gk_then (hK10 _ _ ?_)
        refine gc_seq fun K44 hK44 => ?_
        obtain rfl : k = r.length := by omega
        refine gc_region ?_
        refine g_v (.free rfl) rfl rfl (qt_move rfl rfl) ?_
        refine g_op (.free rfl) fun K46 hK46 => ?_
        refine go_callC rfl rfl rfl Try.func35 rfl (by decide) rfl (fun w M => specMonoidC_any w _ _ (mem_rd2 M hu)) ?_
        intro ca45 cb45 cc45 cd45 ce45 cf45 cg45 ch45 cu45
        refine hK46 _ _ ?_
        refine g_q (.free rfl) rfl rfl (qt_call rfl Try.func26 rfl (by decide) rfl (fun w M => specMade_f w _ _ (rdC_mk ((mem_own1 (n := 1) M rfl).rd) ((mem_own1 (n := 2) M rfl).rd) ((mem_own1 (n := 3) M rfl).rd) (mem_rdU (n := 4) M rfl)) (hf))) ?_
        refine g_v (.free rfl) rfl rfl (qt_extract rfl rfl rfl) ?_
        refine g_v (.free rfl) rfl rfl (qt_extract rfl rfl rfl) ?_
        refine g_op (.free rfl) fun K47 hK47 => ?_
        refine go_storeS (n := 0) rfl rfl rfl rfl (by kernel_rfl) rfl rfl rfl ?_
        refine hK47 _ _ ?_
        refine g_v (.free rfl) rfl rfl (qt_assign rfl rfl) ?_
        refine g_nil ?_
        refine gk_then (hK44 _ _ ?_)
        refine gc_ret ?_
        refine ret_SI (n := 0) rfl rfl rfl Try.underlying25 rfl (by kernel_rfl) rfl (fun w M => ?_)
        have hM : MonP r := ⟨⟨hr0, hsq⟩, fun i hi => (hall i hi).1, fun i hi => (hall i hi).2⟩
        rw [mon_l hM (fun h => hf (mon_fit.2 h))]; exact ⟨_, rfl, ownC_zero _ _, M.1⟩

set_option maxHeartbeats 1000000 in
set_option maxRecDepth 100000 in
theorem isAssoc_any (w : World) (u : Value) (r : List (List Int)) (hu : Rd2 w u r) (hsq : SquareP r r.length) :
    Calls Try.prog 62 #[u] w (RetB w (bP (∀ i : Nat, i < r.length → AscRow r i))) := by
  obtain ⟨ua, uc, rfl⟩ := rd2_form hu
  have hul := rd2_len hu
  go_enter Try.func62, Try.ntmps62
  refine gc_enter (N := 51) rfl (look_cons (k := 0) rfl (look_nil _)) ?_
  refine gc_seq fun K1 hK1 => ?_
  refine gc_region ?_
  refine g_v (.free rfl) rfl rfl (qt_assign rfl rfl) ?_
  refine g_nil ?_
  refine gk_then (hK1 _ _ ?_)
  refine gc_seq fun K2 hK2 => ?_
  refine gc_seq fun K3 hK3 => ?_
  refine gc_region ?_
  refine g_v (.free rfl) rfl rfl (qt_move rfl rfl) ?_
  refine g_v (.free rfl) rfl rfl (qt_len rfl rfl ulE2 (fun w M => lenV_rd2 hu)) ?_
  refine g_v (.free rfl) rfl rfl (qt_move rfl rfl) ?_
  refine g_nil ?_
  refine gk_then (hK3 _ _ ?_)
  refine gc_block ?_
  try simp only [List.nil_append, List.cons_append, List.append_assoc, List.set_cons_succ, List.set_cons_zero]
  refine gc_loop ([(0, _), (7, _)] : Env) (fun s : Nat => (fun (k : Nat) => ([(8, .int .i64 (k : Int))] : Env)) s) (fun s : Nat => (fun (k : Nat) => ([] : List (Nat × Itm))) s) (fun s : Nat => (fun (k : Nat) => k ≤ r.length ∧ ∀ i : Nat, i < k → AscRow r i) s) (fun s : Nat => (fun (k : Nat) => r.length - k) s) (0) (sub_cons rfl (sub_cons rfl (sub_cons rfl sub_nil))) rfl ⟨Nat.zero_le _, fun f hf => absurd hf (by omega)⟩ ?_
  rintro k hinv KL4 hKL4
  simp only [updL, List.foldl_cons, List.foldl_nil, List.set_cons_succ, List.set_cons_zero, List.cons_append, List.nil_append] at hinv hKL4 ⊢
  obtain ⟨hk, hall⟩ := hinv
  refine gc_seq fun K5 hK5 => ?_
  refine gc_region ?_
  refine g_v (.free rfl) rfl rfl (qt_lss rfl rfl rfl) ?_
  refine g_nil ?_
  refine gk_then (hK5 _ _ ?_)
  refine gc_seq fun K6 hK6 => ?_
  refine gc_cond rfl (fun hc0 => ?_) (fun hc0 => ?_)
  · try simp only [decide_eq_true_eq, decide_eq_false_iff_not, Bool.not_eq_true', Bool.not_eq_false', Bool.not_eq_eq_eq_not, Bool.not_true, Bool.not_false, ne_eq, Decidable.not_not, Classical.not_not] at hc0
    refine gc_skip ?_
    refine gk_then (hK6 _ _ ?_)
    refine gc_seq fun K7 hK7 => ?_
    refine gc_block ?_
    refine gc_seq fun K8 hK8 => ?_
    refine gc_region ?_
    refine g_v (.free rfl) rfl rfl (qt_move rfl rfl) ?_
    refine g_v (.free rfl) rfl rfl (qt_assign rfl rfl) ?_
    refine g_nil ?_
    refine gk_then (hK8 _ _ ?_)
    refine gc_seq fun K9 hK9 => ?_
    refine gc_region ?_
    refine g_v (.free rfl) rfl rfl (qt_move rfl rfl) ?_
    refine g_v (.free rfl) rfl rfl (qt_len rfl rfl ulE2 (fun w M => lenV_rd2 hu)) ?_
    refine g_v (.free rfl) rfl rfl (qt_move rfl rfl) ?_
    refine g_nil ?_
    refine gk_then (hK9 _ _ ?_)
    refine gc_block ?_
    try simp only [List.nil_append, List.cons_append, List.append_assoc, List.set_cons_succ, List.set_cons_zero]
    refine gc_loop ([(0, _), (3, _), (7, _), (8, _), (9, _), (12, _)] : Env) (fun s : Nat => (fun (l : Nat) => ([(13, .int .i64 (l : Int))] : Env)) s) (fun s : Nat => (fun (l : Nat) => ([] : List (Nat × Itm))) s) (fun s : Nat => (fun (l : Nat) => l ≤ r.length ∧ ∀ j : Nat, j < l → ∀ m : Nat, m < r.length → asc r k j m) s) (fun s : Nat => (fun (l : Nat) => r.length - l) s) (0) (sub_cons rfl (sub_cons rfl (sub_cons rfl (sub_cons rfl (sub_cons rfl (sub_cons rfl (sub_cons rfl sub_nil))))))) rfl ⟨Nat.zero_le _, fun f hf => absurd hf (by omega)⟩ ?_
    rintro l hinv KL10 hKL10
    simp only [updL, List.foldl_cons, List.foldl_nil, List.set_cons_succ, List.set_cons_zero, List.cons_append, List.nil_append] at hinv hKL10 ⊢
    obtain ⟨hl, hin⟩ := hinv
    refine gc_seq fun K11 hK11 => ?_
    refine gc_region ?_
    refine g_v (.free rfl) rfl rfl (qt_lss rfl rfl rfl) ?_
    refine g_nil ?_
    refine gk_then (hK11 _ _ ?_)
    refine gc_seq fun K12 hK12 => ?_
    refine gc_cond rfl (fun hc1 => ?_) (fun hc1 => ?_)
    · try simp only [decide_eq_true_eq, decide_eq_false_iff_not, Bool.not_eq_true', Bool.not_eq_false', Bool.not_eq_eq_eq_not, Bool.not_true, Bool.not_false, ne_eq, Decidable.not_not, Classical.not_not] at hc1
      refine gc_skip ?_
      refine gk_then (hK12 _ _ ?_)
      refine gc_seq fun K13 hK13 => ?_
      refine gc_block ?_
      refine gc_seq fun K14 hK14 => ?_
      refine gc_region ?_
      refine g_v (.free rfl) rfl rfl (qt_move rfl rfl) ?_
      refine g_v (.free rfl) rfl rfl (qt_assign rfl rfl) ?_
      refine g_nil ?_
      refine gk_then (hK14 _ _ ?_)
      refine gc_seq fun K15 hK15 => ?_
      refine gc_region ?_
      refine g_v (.free rfl) rfl rfl (qt_move rfl rfl) ?_
      refine g_v (.free rfl) rfl rfl (qt_len rfl rfl ulE2 (fun w M => lenV_rd2 hu)) ?_
      refine g_v (.free rfl) rfl rfl (qt_move rfl rfl) ?_
      refine g_nil ?_
      refine gk_then (hK15 _ _ ?_)
      refine gc_block ?_
      try simp only [List.nil_append, List.cons_append, List.append_assoc, List.set_cons_succ, List.set_cons_zero]
      refine gc_loop ([(0, _), (3, _), (4, _), (7, _), (8, _), (9, _), (12, _), (13, _), (14, _), (17, _)] : Env) (fun s : Nat => (fun (m : Nat) => ([(18, .int .i64 (m : Int))] : Env)) s) (fun s : Nat => (fun (m : Nat) => ([] : List (Nat × Itm))) s) (fun s : Nat => (fun (m : Nat) => m ≤ r.length ∧ ∀ x : Nat, x < m → asc r k l x) s) (fun s : Nat => (fun (m : Nat) => r.length - m) s) (0) (sub_cons rfl (sub_cons rfl (sub_cons rfl (sub_cons rfl (sub_cons rfl (sub_cons rfl (sub_cons rfl (sub_cons rfl (sub_cons rfl (sub_cons rfl (sub_cons rfl sub_nil))))))))))) rfl ⟨Nat.zero_le _, fun f hf => absurd hf (by omega)⟩ ?_
      rintro m hinv KL16 hKL16
      simp only [updL, List.foldl_cons, List.foldl_nil, List.set_cons_succ, List.set_cons_zero, List.cons_append, List.nil_append] at hinv hKL16 ⊢
      obtain ⟨hm, him⟩ := hinv
      refine gc_seq fun K17 hK17 => ?_
      refine gc_region ?_
      refine g_v (.free rfl) rfl rfl (qt_lss rfl rfl rfl) ?_
      refine g_nil ?_
      refine gk_then (hK17 _ _ ?_)
      refine gc_seq fun K18 hK18 => ?_
      refine gc_cond rfl (fun hc2 => ?_) (fun hc2 => ?_)
      · try simp only [decide_eq_true_eq, decide_eq_false_iff_not, Bool.not_eq_true', Bool.not_eq_false', Bool.not_eq_eq_eq_not, Bool.not_true, Bool.not_false, ne_eq, Decidable.not_not, Classical.not_not] at hc2
        refine gc_skip ?_
        refine gk_then (hK18 _ _ ?_)
        refine gc_seq fun K19 hK19 => ?_
        refine gc_block ?_
        refine gc_seq fun K20 hK20 => ?_
        refine gc_region ?_
        refine g_v (.free rfl) rfl rfl (qt_move rfl rfl) ?_
        refine g_v (.free rfl) rfl rfl (qt_assign rfl rfl) ?_
        refine g_nil ?_
        refine gk_then (hK20 _ _ ?_)
        refine gc_seq fun K21 hK21 => ?_
        have hq1 := (hsq k (by omega)).1
        have hq2 := (hsq l (by omega)).1
        have hq3 := sq_at hsq (i := k) (j := l) (by omega) (by omega)
        have hq4 := sq_at hsq (i := l) (j := m) (by omega) (by omega)
        have hq5 : (row2 r (at0 (row2 r (k : Int)) (l : Int))).length = r.length := sq_rowI hsq hq3.1 hq3.2
        refine gc_draw (by kernel_rfl) ?_
        refine gd_v (.free rfl) rfl rfl (qt_move rfl rfl) ?_
        refine gd_v (.free rfl) rfl rfl (qt_move rfl rfl) ?_
        refine gd_v (.free rfl) rfl rfl (qt_move rfl rfl) ?_
        refine gd_v (.free rfl) rfl rfl (qt_index rfl rfl rfl ulE2 szE2 (fun w M => lenA_rd2 hu) (by omega) (by omega)) ?_
        refine gd_load2 (.free rfl) rfl rfl rfl rfl Try.underlying22 rfl hu (by omega) (by omega) ?_
        intro ra22 rc22 hr22
        refine gd_v (.free rfl) rfl rfl (qt_move rfl rfl) ?_
        refine gd_v (.free rfl) rfl rfl (qt_index rfl rfl rfl ulE1 szE1 (fun w M => lenA_rd hr22) (by omega) (by omega)) ?_
        refine gd_v (.free rfl) rfl rfl (qt_load1 rfl rfl Try.underlying2 rfl (fun w M => mem_rd M hr22) (by omega) (by omega)) ?_
        refine gd_v (.free rfl) rfl rfl (qt_index rfl rfl rfl ulE2 szE2 (fun w M => lenA_rd2 hu) (by omega) (by omega)) ?_
        refine gd_load2 (.free rfl) rfl rfl rfl rfl Try.underlying22 rfl hu (by omega) (by omega) ?_
        intro ra23 rc23 hr23
        refine gd_v (.free rfl) rfl rfl (qt_move rfl rfl) ?_
        refine gd_v (.free rfl) rfl rfl (qt_index rfl rfl rfl ulE1 szE1 (fun w M => lenA_rd hr23) (by omega) (by omega)) ?_
        refine gd_v (.free rfl) rfl rfl (qt_load1 rfl rfl Try.underlying2 rfl (fun w M => mem_rd M hr23) (by omega) (by omega)) ?_
        refine gd_v (.free rfl) rfl rfl (qt_move rfl rfl) ?_
        refine gd_v (.free rfl) rfl rfl (qt_move rfl rfl) ?_
        refine gd_v (.free rfl) rfl rfl (qt_index rfl rfl rfl ulE2 szE2 (fun w M => lenA_rd2 hu) (by omega) (by omega)) ?_
        refine gd_load2 (.free rfl) rfl rfl rfl rfl Try.underlying22 rfl hu (by omega) (by omega) ?_
        intro ra24 rc24 hr24
        refine gd_v (.free rfl) rfl rfl (qt_move rfl rfl) ?_
        refine gd_v (.free rfl) rfl rfl (qt_move rfl rfl) ?_
        refine gd_v (.free rfl) rfl rfl (qt_index rfl rfl rfl ulE2 szE2 (fun w M => lenA_rd2 hu) (by omega) (by omega)) ?_
        refine gd_load2 (.free rfl) rfl rfl rfl rfl Try.underlying22 rfl hu (by omega) (by omega) ?_
        intro ra25 rc25 hr25
        refine gd_v (.free rfl) rfl rfl (qt_move rfl rfl) ?_
        refine gd_v (.free rfl) rfl rfl (qt_index rfl rfl rfl ulE1 szE1 (fun w M => lenA_rd hr25) (by omega) (by omega)) ?_
        refine gd_v (.free rfl) rfl rfl (qt_load1 rfl rfl Try.underlying2 rfl (fun w M => mem_rd M hr25) (by omega) (by omega)) ?_
        refine gd_v (.free rfl) rfl rfl (qt_index rfl rfl rfl ulE1 szE1 (fun w M => lenA_rd hr24) (by omega) (by omega)) ?_
        refine gd_v (.free rfl) rfl rfl (qt_load1 rfl rfl Try.underlying2 rfl (fun w M => mem_rd M hr24) (by omega) (by omega)) ?_
        refine gd_v (.free rfl) rfl rfl (qt_neq rfl rfl rfl) ?_
        refine gd_nil ?_
        refine gk_then (hK21 _ _ ?_)
        refine gc_cond rfl (fun hc3 => ?_) (fun hc3 => ?_)
        · try simp only [decide_eq_true_eq, decide_eq_false_iff_not, Bool.not_eq_true', Bool.not_eq_false', Bool.not_eq_eq_eq_not, Bool.not_true, Bool.not_false, ne_eq, Decidable.not_not, Classical.not_not] at hc3
          refine gc_seq fun K26 hK26 => ?_
          refine gc_region ?_
          refine g_v (.free rfl) rfl rfl (qt_assign rfl rfl) ?_
          refine g_nil ?_
          refine gk_then (hK26 _ _ ?_)
          refine gc_ret ?_
          refine gk_block_ret ?_
          refine gk_then_ret ?_
          refine gk_then_ret ?_
          refine gk_block_ret ?_
          refine gk_block_ret ?_
          refine gk_then_ret ?_
          refine gk_then_ret ?_
          refine gk_block_ret ?_
          refine gk_block_ret ?_
          refine gk_then_ret ?_
          refine gk_then_ret ?_
          refine gk_block_ret ?_
          refine gk_then_ret ?_
          refine ret_1 rfl rfl  (fun w M => ?_)
          rw [bP_f (fun h : ∀ i : Nat, i < r.length → AscRow r i => hc3 (h k (by omega) l (by omega) m (by omega)))]; exact ⟨rfl, M.1⟩
        · try simp only [decide_eq_true_eq, decide_eq_false_iff_not, Bool.not_eq_true', Bool.not_eq_false', Bool.not_eq_eq_eq_not, Bool.not_true, Bool.not_false, ne_eq, Decidable.not_not, Classical.not_not] at hc3
          refine gc_skip ?_
          refine gk_block ?_
          refine gk_then (hK19 _ _ ?_)
          refine gc_region ?_
          refine g_v (.free rfl) rfl rfl (qt_add rfl rfl rfl (by omega)) ?_
          refine g_v (.free rfl) rfl rfl (qt_move rfl rfl) ?_
          refine g_nil ?_
          refine gk_then (gk_take 0 ?_)
          refine gk_sub ?hs_27 (hKL16 (m + 1) ?hi_27 ?hm_27)
          case hs_27 => exact (sub_cons rfl (sub_cons rfl (sub_cons rfl (sub_cons rfl (sub_cons rfl (sub_cons rfl (sub_cons rfl (sub_cons rfl (sub_cons rfl (sub_cons rfl (sub_cons rfl sub_nil)))))))))))
          case hi_27 => exact ⟨by omega, all_next him hc3⟩
          case hm_27 => omega
      · try simp only [decide_eq_true_eq, decide_eq_false_iff_not, Bool.not_eq_true', Bool.not_eq_false', Bool.not_eq_eq_eq_not, Bool.not_true, Bool.not_false, ne_eq, Decidable.not_not, Classical.not_not] at hc2
        refine gc_exit ?_
        refine gk_then_exit ?_
        refine gk_then_exit ?_
        refine gk_block_hit ?_
        refine gk_block ?_
        refine gk_then (hK13 _ _ ?_)
        refine gc_region ?_
        refine g_v (.free rfl) rfl rfl (qt_add rfl rfl rfl (by omega)) ?_
        refine g_v (.free rfl) rfl rfl (qt_move rfl rfl) ?_
        refine g_nil ?_
        refine gk_then (gk_take 0 ?_)
        refine gk_sub ?hs_28 (hKL10 (l + 1) ?hi_28 ?hm_28)
        case hs_28 => exact (sub_cons rfl (sub_cons rfl (sub_cons rfl (sub_cons rfl (sub_cons rfl (sub_cons rfl (sub_cons rfl sub_nil)))))))
        case hi_28 => exact ⟨by omega, all_next hin fun m hm => him m (by omega)⟩
        case hm_28 => omega
    · try simp only [decide_eq_true_eq, decide_eq_false_iff_not, Bool.not_eq_true', Bool.not_eq_false', Bool.not_eq_eq_eq_not, Bool.not_true, Bool.not_false, ne_eq, Decidable.not_not, Classical.not_not] at hc1
      refine gc_exit ?_
      refine gk_then_exit ?_
      refine gk_then_exit ?_
      refine gk_block_hit ?_
      refine gk_block ?_
      refine gk_then (hK7 _ _ ?_)
      refine gc_region ?_
      refine g_v (.free rfl) rfl rfl (qt_add rfl rfl rfl (by omega)) ?_
      refine g_v (.free rfl) rfl rfl (qt_move rfl rfl) ?_
      refine g_nil ?_
      refine gk_then (gk_take 0 ?_)
      refine gk_sub ?hs_29 (hKL4 (k + 1) ?hi_29 ?hm_29)
      case hs_29 => exact (sub_cons rfl (sub_cons rfl (sub_cons rfl sub_nil)))
      case hi_29 => exact ⟨by omega, all_next hall fun j hj => hin j (by omega)⟩
      case hm_29 => omega
  · try simp only [decide_eq_true_eq, decide_eq_false_iff_not, Bool.not_eq_true', Bool.not_eq_false', Bool.not_eq_eq_eq_not, Bool.not_true, Bool.not_false, ne_eq, Decidable.not_not, Classical.not_not] at hc0
    refine gc_exit ?_
    refine gk_then_exit ?_
    refine gk_then_exit ?_
    refine gk_block_hit ?_
    refine gk_then (hK2 _ _ ?_)
    refine gc_seq fun K30 hK30 => ?_
    refine gc_region ?_
    refine g_v (.free rfl) rfl rfl (qt_assign rfl rfl) ?_
    refine g_nil ?_
    refine gk_then (hK30 _ _ ?_)
    refine gc_ret ?_
    refine ret_1 rfl rfl  (fun w M => ?_)
    obtain rfl : k = r.length := by omega
    rw [bP_t (show ∀ i : Nat, i < r.length → AscRow r i from hall)]; exact ⟨rfl, M.1⟩

set_option maxHeartbeats 1000000 in
set_option maxRecDepth 100000 in
theorem isMonoid_any (w : World) (u : Value) (r : List (List Int)) (hu : Rd2 w u r) :
    Calls Try.prog 37 #[u] w (RetB w (bP (MonP r))) := by
  obtain ⟨ua, uc, rfl⟩ := rd2_form hu
  have hul := rd2_len hu
  go_enter Try.func37, Try.ntmps37
  refine gc_enter (N := 41) rfl (look_cons (k := 0) rfl (look_nil _)) ?_
  refine gc_seq fun K1 hK1 => ?_
  refine gc_region ?_
  refine g_v (.free rfl) rfl rfl (qt_assign rfl rfl) ?_
  refine g_nil ?_
  refine gk_then (hK1 _ _ ?_)
  refine gc_seq fun K2 hK2 => ?_
  refine gc_seq fun K3 hK3 => ?_
  refine gc_region ?_
  refine g_v (.free rfl) rfl rfl (qt_move rfl rfl) ?_
  refine g_v (.free rfl) rfl rfl (qt_len rfl rfl ulE2 (fun w M => lenV_rd2 hu)) ?_
  refine g_v (.free rfl) rfl rfl (qt_eql rfl rfl rfl) ?_
  refine g_splitv (.free rfl) rfl rfl (qt_move rfl rfl) (fun hs1_3 => ?_) (fun hs1_3 => ?_)
  · try simp only [decide_eq_true_eq, decide_eq_false_iff_not, Bool.not_eq_true', Bool.not_eq_false', Bool.not_eq_eq_eq_not, Bool.not_true, Bool.not_false, ne_eq, Decidable.not_not, Classical.not_not] at hs1_3
    refine g_skip (.not _ _ _ _ rfl rfl rfl rfl) rfl rfl ?_
    refine g_skip (.not _ _ _ _ rfl rfl rfl rfl) rfl rfl ?_
    refine g_skip (.not _ _ _ _ rfl rfl rfl rfl) rfl rfl ?_
    refine g_skip (.not _ _ _ _ rfl rfl rfl rfl) rfl rfl ?_
    refine g_skip (.not _ _ _ _ rfl rfl rfl rfl) rfl rfl ?_
    refine g_skip (.not _ _ _ _ rfl rfl rfl rfl) rfl rfl ?_
    refine g_v (.free rfl) rfl rfl (qt_pick_t rfl rfl rfl) ?_
    refine g_nil ?_
    refine gk_then (hK3 _ _ ?_)
    refine gc_cond_t rfl ?_
    refine gc_seq fun K4 hK4 => ?_
    refine gc_region ?_
    refine g_v (.free rfl) rfl rfl (qt_assign rfl rfl) ?_
    refine g_nil ?_
    refine gk_then (hK4 _ _ ?_)
    refine gc_ret ?_
    refine gk_then_ret ?_
    refine ret_1 rfl rfl  (fun w M => ?_)
    rw [bP_f (fun h : MonP r => by have := h.1.1; omega)]; exact ⟨rfl, M.1⟩
  · try simp only [decide_eq_true_eq, decide_eq_false_iff_not, Bool.not_eq_true', Bool.not_eq_false', Bool.not_eq_eq_eq_not, Bool.not_true, Bool.not_false, ne_eq, Decidable.not_not, Classical.not_not] at hs1_3
    refine g_v (.held _ _ _ rfl rfl rfl) rfl rfl (qt_move rfl rfl) ?_
    refine g_v (.held _ _ _ rfl rfl rfl) rfl rfl (qt_move rfl rfl) ?_
    refine g_v (.held _ _ _ rfl rfl rfl) rfl rfl (qt_len rfl rfl ulE2 (fun w M => lenV_rd2 hu)) ?_
    refine g_v (.held _ _ _ rfl rfl rfl) rfl rfl (qt_sub rfl rfl rfl (by omega)) ?_
    refine g_q (.held _ _ _ rfl rfl rfl) rfl rfl (qt_call rfl Try.func61 rfl (by decide) rfl (fun w M => isSquare_any w _ _ _ (mem_rd2 M hu))) ?_
    refine g_v (.held _ _ _ rfl rfl rfl) rfl rfl (qt_not rfl rfl) ?_
    refine g_v (.free rfl) rfl rfl (qt_pick_f rfl rfl rfl) ?_
    refine g_nil ?_
    refine gk_then (hK3 _ _ ?_)
    refine gc_cond rfl (fun hc0 => ?_) (fun hc0 => ?_)
    · try simp only [decide_eq_true_eq, decide_eq_false_iff_not, Bool.not_eq_true', Bool.not_eq_false', Bool.not_eq_eq_eq_not, Bool.not_true, Bool.not_false, ne_eq, Decidable.not_not, Classical.not_not] at hc0
      refine gc_seq fun K5 hK5 => ?_
      refine gc_region ?_
      refine g_v (.free rfl) rfl rfl (qt_assign rfl rfl) ?_
      refine g_nil ?_
      refine gk_then (hK5 _ _ ?_)
      refine gc_ret ?_
      refine gk_then_ret ?_
      refine ret_1 rfl rfl  (fun w M => ?_)
      rw [bP_f (fun h : MonP r => bP_f' hc0 (by rw [Int.sub_add_cancel]; exact h.1.2))]; exact ⟨rfl, M.1⟩
    · try simp only [decide_eq_true_eq, decide_eq_false_iff_not, Bool.not_eq_true', Bool.not_eq_false', Bool.not_eq_eq_eq_not, Bool.not_true, Bool.not_false, ne_eq, Decidable.not_not, Classical.not_not] at hc0
      refine gc_skip ?_
      refine gk_then (hK2 _ _ ?_)
      refine gc_seq fun K6 hK6 => ?_
      refine gc_seq fun K7 hK7 => ?_
      have hsq : SquareP r r.length := by have := bP_t' hc0; rwa [Int.sub_add_cancel] at this
      have hr0 : 0 < r.length := by omega
      refine gc_region ?_
      refine g_v (.free rfl) rfl rfl (qt_move rfl rfl) ?_
      refine g_v (.free rfl) rfl rfl (qt_len rfl rfl ulE2 (fun w M => lenV_rd2 hu)) ?_
      refine g_v (.free rfl) rfl rfl (qt_move rfl rfl) ?_
      refine g_nil ?_
      refine gk_then (hK7 _ _ ?_)
      refine gc_block ?_
      try simp only [List.nil_append, List.cons_append, List.append_assoc, List.set_cons_succ, List.set_cons_zero]
      refine gc_loop ([(0, _), (14, _), (16, _)] : Env) (fun s : Nat => (fun (k : Nat) => ([(17, .int .i64 (k : Int))] : Env)) s) (fun s : Nat => (fun (k : Nat) => ([] : List (Nat × Itm))) s) (fun s : Nat => (fun (k : Nat) => k ≤ r.length ∧ ∀ i : Nat, i < k → UnitRow r i) s) (fun s : Nat => (fun (k : Nat) => r.length - k) s) (0) (sub_cons rfl (sub_cons rfl (sub_cons rfl (sub_cons rfl sub_nil)))) rfl ⟨Nat.zero_le _, fun f hf => absurd hf (by omega)⟩ ?_
      rintro k hinv KL8 hKL8
      simp only [updL, List.foldl_cons, List.foldl_nil, List.set_cons_succ, List.set_cons_zero, List.cons_append, List.nil_append] at hinv hKL8 ⊢
      obtain ⟨hk, hall⟩ := hinv
      refine gc_seq fun K9 hK9 => ?_
      refine gc_region ?_
      refine g_v (.free rfl) rfl rfl (qt_lss rfl rfl rfl) ?_
      refine g_nil ?_
      refine gk_then (hK9 _ _ ?_)
      refine gc_seq fun K10 hK10 => ?_
      refine gc_cond rfl (fun hc1 => ?_) (fun hc1 => ?_)
      · try simp only [decide_eq_true_eq, decide_eq_false_iff_not, Bool.not_eq_true', Bool.not_eq_false', Bool.not_eq_eq_eq_not, Bool.not_true, Bool.not_false, ne_eq, Decidable.not_not, Classical.not_not] at hc1
        refine gc_skip ?_
        refine gk_then (hK10 _ _ ?_)
        refine gc_seq fun K11 hK11 => ?_
        refine gc_block ?_
        refine gc_seq fun K12 hK12 => ?_
        refine gc_region ?_
        refine g_v (.free rfl) rfl rfl (qt_move rfl rfl) ?_
        refine g_v (.free rfl) rfl rfl (qt_assign rfl rfl) ?_
        refine g_nil ?_
        refine gk_then (hK12 _ _ ?_)
        refine gc_seq fun K13 hK13 => ?_
        have hq1 := (hsq k (by omega)).1
        have hq0 : (row2 r 0).length = r.length := sq_rowI hsq (by omega) (by omega)
        refine gc_region ?_
        refine g_v (.free rfl) rfl rfl (qt_move rfl rfl) ?_
        refine g_v (.free rfl) rfl rfl (qt_index rfl rfl rfl ulE2 szE2 (fun w M => lenA_rd2 hu) (by omega) (by omega)) ?_
        refine g_load2 (.free rfl) rfl rfl rfl rfl Try.underlying22 rfl hu (by omega) (by omega) ?_
        intro ra14 rc14 hr14
        refine g_v (.free rfl) rfl rfl (qt_move rfl rfl) ?_
        refine g_v (.free rfl) rfl rfl (qt_index rfl rfl rfl ulE1 szE1 (fun w M => lenA_rd hr14) (by omega) (by omega)) ?_
        refine g_v (.free rfl) rfl rfl (qt_load1 rfl rfl Try.underlying2 rfl (fun w M => mem_rd M hr14) (by omega) (by omega)) ?_
        refine g_v (.free rfl) rfl rfl (qt_move rfl rfl) ?_
        refine g_v (.free rfl) rfl rfl (qt_neq rfl rfl rfl) ?_
        refine g_splitv (.free rfl) rfl rfl (qt_move rfl rfl) (fun hs6_8 => ?_) (fun hs6_8 => ?_)
        · try simp only [decide_eq_true_eq, decide_eq_false_iff_not, Bool.not_eq_true', Bool.not_eq_false', Bool.not_eq_eq_eq_not, Bool.not_true, Bool.not_false, ne_eq, Decidable.not_not, Classical.not_not] at hs6_8
          refine g_skip (.not _ _ _ _ rfl rfl rfl rfl) rfl rfl ?_
          refine g_skip (.not _ _ _ _ rfl rfl rfl rfl) rfl rfl ?_
          refine g_skip (.not _ _ _ _ rfl rfl rfl rfl) rfl rfl ?_
          refine g_skip (.not _ _ _ _ rfl rfl rfl rfl) rfl rfl ?_
          refine g_skip (.not _ _ _ _ rfl rfl rfl rfl) rfl rfl ?_
          refine g_skip (.not _ _ _ _ rfl rfl rfl rfl) rfl rfl ?_
          refine g_skip (.not _ _ _ _ rfl rfl rfl rfl) rfl rfl ?_
          refine g_skip (.not _ _ _ _ rfl rfl rfl rfl) rfl rfl ?_
          refine g_v (.free rfl) rfl rfl (qt_pick_t rfl rfl rfl) ?_
          refine g_nil ?_
          refine gk_then (hK13 _ _ ?_)
          refine gc_cond_t rfl ?_
          refine gc_seq fun K15 hK15 => ?_
          refine gc_region ?_
          refine g_v (.free rfl) rfl rfl (qt_assign rfl rfl) ?_
          refine g_nil ?_
          refine gk_then (hK15 _ _ ?_)
          refine gc_ret ?_
          refine gk_block_ret ?_
          refine gk_then_ret ?_
          refine gk_then_ret ?_
          refine gk_block_ret ?_
          refine gk_then_ret ?_
          refine ret_1 rfl rfl  (fun w M => ?_)
          rw [bP_f (fun h : MonP r => hs6_8 (h.2.1 k (by omega)).1)]; exact ⟨rfl, M.1⟩
        · try simp only [decide_eq_true_eq, decide_eq_false_iff_not, Bool.not_eq_true', Bool.not_eq_false', Bool.not_eq_eq_eq_not, Bool.not_true, Bool.not_false, ne_eq, Decidable.not_not, Classical.not_not] at hs6_8
          refine g_v (.held _ _ _ rfl rfl rfl) rfl rfl (qt_move rfl rfl) ?_
          refine g_v (.held _ _ _ rfl rfl rfl) rfl rfl (qt_move rfl rfl) ?_
          refine g_v (.held _ _ _ rfl rfl rfl) rfl rfl (qt_index rfl rfl rfl ulE2 szE2 (fun w M => lenA_rd2 hu) (by omega) (by omega)) ?_
          refine g_load2 (.held _ _ _ rfl rfl rfl) rfl rfl rfl rfl Try.underlying22 rfl hu (by omega) (by omega) ?_
          intro ra16 rc16 hr16
          refine g_v (.held _ _ _ rfl rfl rfl) rfl rfl (qt_index rfl rfl rfl ulE1 szE1 (fun w M => lenA_rd hr16) (by omega) (by omega)) ?_
          refine g_v (.held _ _ _ rfl rfl rfl) rfl rfl (qt_load1 rfl rfl Try.underlying2 rfl (fun w M => mem_rd M hr16) (by omega) (by omega)) ?_
          refine g_v (.held _ _ _ rfl rfl rfl) rfl rfl (qt_move rfl rfl) ?_
          refine g_v (.held _ _ _ rfl rfl rfl) rfl rfl (qt_neq rfl rfl rfl) ?_
          refine g_v (.free rfl) rfl rfl (qt_pick_f rfl rfl rfl) ?_
          refine g_nil ?_
          refine gk_then (hK13 _ _ ?_)
          refine gc_cond rfl (fun hc2 => ?_) (fun hc2 => ?_)
          · try simp only [decide_eq_true_eq, decide_eq_false_iff_not, Bool.not_eq_true', Bool.not_eq_false', Bool.not_eq_eq_eq_not, Bool.not_true, Bool.not_false, ne_eq, Decidable.not_not, Classical.not_not] at hc2
            refine gc_seq fun K17 hK17 => ?_
            refine gc_region ?_
            refine g_v (.free rfl) rfl rfl (qt_assign rfl rfl) ?_
            refine g_nil ?_
            refine gk_then (hK17 _ _ ?_)
            refine gc_ret ?_
            refine gk_block_ret ?_
            refine gk_then_ret ?_
            refine gk_then_ret ?_
            refine gk_block_ret ?_
            refine gk_then_ret ?_
            refine ret_1 rfl rfl  (fun w M => ?_)
            rw [bP_f (fun h : MonP r => hc2 (h.2.1 k (by omega)).2)]; exact ⟨rfl, M.1⟩
          · try simp only [decide_eq_true_eq, decide_eq_false_iff_not, Bool.not_eq_true', Bool.not_eq_false', Bool.not_eq_eq_eq_not, Bool.not_true, Bool.not_false, ne_eq, Decidable.not_not, Classical.not_not] at hc2
            refine gc_skip ?_
            refine gk_block ?_
            refine gk_then (hK11 _ _ ?_)
            refine gc_region ?_
            refine g_v (.free rfl) rfl rfl (qt_add rfl rfl rfl (by omega)) ?_
            refine g_v (.free rfl) rfl rfl (qt_move rfl rfl) ?_
            refine g_nil ?_
            refine gk_then (gk_take 0 ?_)
            refine gk_sub ?hs_18 (hKL8 (k + 1) ?hi_18 ?hm_18)
            case hs_18 => exact (sub_cons rfl (sub_cons rfl (sub_cons rfl (sub_cons rfl sub_nil))))
            case hi_18 => exact ⟨by omega, all_next hall ⟨hs6_8, hc2⟩⟩
            case hm_18 => omega
      · try simp only [decide_eq_true_eq, decide_eq_false_iff_not, Bool.not_eq_true', Bool.not_eq_false', Bool.not_eq_eq_eq_not, Bool.not_true, Bool.not_false, ne_eq, Decidable.not_not, Classical.not_not] at hc1
        refine gc_exit ?_
        refine gk_then_exit ?_
        refine gk_then_exit ?_
        refine gk_block_hit ?_
        refine gk_then (hK6 _ _ ?_)
        refine gc_seq fun K19 hK19 => ?_
        obtain rfl : k = r.length := by omega
        refine gc_region ?_
        refine g_v (.free rfl) rfl rfl (qt_move rfl rfl) ?_
        refine g_q (.free rfl) rfl rfl (qt_call rfl Try.func62 rfl (by decide) rfl (fun w M => isAssoc_any w _ _ (mem_rd2 M hu) (by first | assumption | omega))) ?_
        refine g_v (.free rfl) rfl rfl (qt_assign rfl rfl) ?_
        refine g_nil ?_
        refine gk_then (hK19 _ _ ?_)
        refine gc_ret ?_
        refine ret_1 rfl rfl  (fun w M => ?_)
        rw [show bP (MonP r) = bP (∀ i : Nat, i < r.length → AscRow r i) from bP_congr ⟨fun h => h.2.2, fun h => ⟨⟨hr0, hsq⟩, hall, h⟩⟩]; exact ⟨rfl, M.1⟩

set_option maxHeartbeats 1000000 in
set_option maxRecDepth 100000 in
theorem monC1_any (w : World) (x : Int) :
    Calls Try.prog 38 #[.int .i64 x] w (RetV w (.int .i64 0)) := by
  go_enter Try.func38, Try.ntmps38
  refine gc_enter (N := 3) rfl (look_cons (k := 0) rfl (look_nil _)) ?_
  refine gc_seq fun K1 hK1 => ?_
  refine gc_region ?_
  refine g_v (.free rfl) rfl rfl (qt_assign rfl rfl) ?_
  refine g_nil ?_
  refine gk_then (hK1 _ _ ?_)
  refine gc_seq fun K2 hK2 => ?_
  refine gc_region ?_
  refine g_v (.free rfl) rfl rfl (qt_assign rfl rfl) ?_
  refine g_nil ?_
  refine gk_then (hK2 _ _ ?_)
  refine gc_ret ?_
  refine ret_1 rfl rfl  (fun w M => ?_)
  exact ⟨rfl, M.1⟩

set_option maxHeartbeats 1000000 in
set_option maxRecDepth 100000 in
theorem monC2_any (w : World) (f g : Int) (B : Nat) (u : Value) (r : List (List Int)) (hu : Rd2 w u r) (hb : BxV w B 23 (.agg #[u])) (hsq : SquareP r r.length) (f0 : 0 ≤ f) (f1 : f < r.length) (g0 : 0 ≤ g) (g1 : g < r.length) :
    Calls Try.prog 39 #[.int .i64 f, .int .i64 g, .pointer (some ⟨B, 0, none⟩)] w (RetV w (.int .i64 (at0 (row2 r f) g))) := by
  obtain ⟨ua, uc, rfl⟩ := rd2_form hu
  have hq1 := sq_rowI hsq f0 f1
  go_enter Try.func39, Try.ntmps39
  refine gc_enter (N := 13) rfl (look_cons (k := 0) rfl (look_cons (k := 1) rfl (look_cons (k := 2) rfl (look_nil _)))) ?_
  refine gc_seq fun K1 hK1 => ?_
  refine gc_region ?_
  refine g_v (.free rfl) rfl rfl (qt_assign rfl rfl) ?_
  refine g_nil ?_
  refine gk_then (hK1 _ _ ?_)
  refine gc_seq fun K2 hK2 => ?_
  refine gc_region ?_
  refine g_v (.free rfl) rfl rfl (qt_loadRB hb rfl rfl Try.underlying23 rfl rfl) ?_
  refine g_v (.free rfl) rfl rfl (qt_move rfl rfl) ?_
  refine g_v (.free rfl) rfl rfl (qt_index rfl rfl rfl ulE2 szE2 (fun w M => lenA_rd2 hu) (by omega) (by omega)) ?_
  refine g_load2 (.free rfl) rfl rfl rfl rfl Try.underlying22 rfl hu (by omega) (by omega) ?_
  intro ra3 rc3 hr3
  refine g_v (.free rfl) rfl rfl (qt_move rfl rfl) ?_
  refine g_v (.free rfl) rfl rfl (qt_index rfl rfl rfl ulE1 szE1 (fun w M => lenA_rd hr3) (by omega) (by omega)) ?_
  refine g_v (.free rfl) rfl rfl (qt_load1 rfl rfl Try.underlying2 rfl (fun w M => mem_rd M hr3) (by omega) (by omega)) ?_
  refine g_v (.free rfl) rfl rfl (qt_assign rfl rfl) ?_
  refine g_nil ?_
  refine gk_then (hK2 _ _ ?_)
  refine gc_ret ?_
  refine ret_1 rfl rfl  (fun w M => ?_)
  exact ⟨rfl, M.1⟩

set_option maxHeartbeats 1000000 in
set_option maxRecDepth 100000 in
theorem impl_MonoidCategory (w : World) (u : Value) (r : List (List Int)) (hu : Rd2 w u r) :
    Calls Try.prog 15 #[u] w (RetCI w (fMonoidCategory r).1 (fMonoidCategory r).2) := by
  obtain ⟨ua, uc, rfl⟩ := rd2_form hu
  have hul := rd2_len hu
  go_enter Try.func15, Try.ntmps15
  refine gc_enter (N := 25) rfl (look_cons (k := 0) rfl (look_nil _)) ?_
  refine gc_seq fun K1 hK1 => ?_
  refine gc_region ?_
  refine g_op (.free rfl) fun K3 hK3 => ?_
  refine go_box rfl rfl rfl rfl rfl ?_
  intro B2
  refine hK3 _ _ ?_
  refine g_op (.free rfl) fun K5 hK5 => ?_
  refine go_alloc (z := (.agg #[.int .i64 0, .slice none 0 0, .slice none 0 0, .slice none 0 0, .slice none 0 0])) (cs := [.int .i64 0, .slice none 0 0, .slice none 0 0, .slice none 0 0, .slice none 0 0]) rfl rfl rfl (fun w => by kernel_rfl) rfl ?_
  intro B4
  refine hK5 _ _ ?_
  refine g_v (.free rfl) rfl rfl (qt_assign rfl rfl) ?_
  refine g_nil ?_
  refine gk_then (hK1 _ _ ?_)
  refine gc_seq fun K6 hK6 => ?_
  refine gc_seq fun K7 hK7 => ?_
  refine gc_region ?_
  refine g_v (.free rfl) rfl rfl (qt_loadB (n := 0) rfl rfl Try.underlying23 rfl rfl rfl) ?_
  refine g_q (.free rfl) rfl rfl (qt_call rfl Try.func37 rfl (by decide) rfl (fun w M => isMonoid_any w _ _ (mem_rd2 M hu))) ?_
  refine g_v (.free rfl) rfl rfl (qt_not rfl rfl) ?_
  refine g_nil ?_
  refine gk_then (hK7 _ _ ?_)
  refine gc_cond rfl (fun hc0 => ?_) (fun hc0 => ?_)
  · try simp only [decide_eq_true_eq, decide_eq_false_iff_not, Bool.not_eq_true', Bool.not_eq_false', Bool.not_eq_eq_eq_not, Bool.not_true, Bool.not_false, ne_eq, Decidable.not_not, Classical.not_not] at hc0
    refine gc_seq fun K8 hK8 => ?_
    refine gc_region ?_
    refine g_v (.free rfl) rfl rfl (qt_build rfl rfl bt0_Category) ?_
    refine g_op (.free rfl) fun K9 hK9 => ?_
    refine go_storeS (n := 1) rfl rfl rfl rfl (by kernel_rfl) rfl rfl rfl ?_
    refine hK9 _ _ ?_
    refine g_v (.free rfl) rfl rfl (qt_assign rfl rfl) ?_
    refine g_nil ?_
    refine gk_then (hK8 _ _ ?_)
    refine gc_ret ?_
    refine gk_then_ret ?_
    refine ret_SI (n := 1) rfl rfl rfl Try.underlying25 rfl (by kernel_rfl) rfl (fun w M => ?_)
    rw [mon_n (bP_f' hc0)]; exact ⟨_, rfl, ownC_zero _ _, M.1⟩
  · try simp only [decide_eq_true_eq, decide_eq_false_iff_not, Bool.not_eq_true', Bool.not_eq_false', Bool.not_eq_eq_eq_not, Bool.not_true, Bool.not_false, ne_eq, Decidable.not_not, Classical.not_not] at hc0
    refine gc_skip ?_
    refine gk_then (hK6 _ _ ?_)
    refine gc_seq fun K10 hK10 => ?_
    have hM := bP_t' hc0
    have hsq := hM.1.2
    refine gc_region ?_
    refine g_v (.free rfl) rfl rfl (qt_makeF rfl rfl) ?_
    refine g_v (.free rfl) rfl rfl (qt_build rfl rfl bt023_plan_int64) ?_
    refine g_op (.free rfl) fun K12 hK12 => ?_
    refine go_alloc (z := (.agg #[.int .i64 0, .slice none 0 0, .nilFunc, .nilFunc])) (cs := [.int .i64 0, .slice none 0 0, .nilFunc, .nilFunc]) rfl rfl rfl (fun w => by kernel_rfl) rfl ?_
    intro B11
    refine hK12 _ _ ?_
    refine g_op (.free rfl) fun K13 hK13 => ?_
    refine go_storeS (n := 2) rfl rfl rfl rfl (by kernel_rfl) rfl rfl rfl ?_
    refine hK13 _ _ ?_
    refine g_nil ?_
    refine gk_then (hK10 _ _ ?_)
    refine gc_seq fun K14 hK14 => ?_
    refine gc_seq fun K15 hK15 => ?_
    refine gc_region ?_
    refine g_v (.free rfl) rfl rfl (qt_loadB (n := 0) rfl rfl Try.underlying23 rfl rfl rfl) ?_
    refine g_v (.free rfl) rfl rfl (qt_len rfl rfl ulE2 (fun w M => lenV_rd2 hu)) ?_
    refine g_v (.free rfl) rfl rfl (qt_move rfl rfl) ?_
    refine g_nil ?_
    refine gk_then (hK15 _ _ ?_)
    refine gc_block ?_
    refine gc_nilE lab_int ?_
    try simp only [List.nil_append, List.cons_append, List.append_assoc, List.set_cons_succ, List.set_cons_zero]
    refine gc_loop ([(0, _), (1, _), (2, _), (3, _), (4, _), (8, _), (13, _)] : Env) (fun s : Nat × (Option Addr) × Nat => (fun (k : Nat) (a : Option Addr) (q : Nat) => ([(14, .int .i64 (k : Int))] : Env)) s.1 s.2.1 s.2.2) (fun s : Nat × (Option Addr) × Nat => (fun (k : Nat) (a : Option Addr) (q : Nat) => ([(2, bxI B11 53 [.int .i64 1, .slice a (entsTo entM k).length q, .func (.func 38) #[] #[], .func (.func 39) #[] #[.pointer (some ⟨B2, 0, none⟩)]]), (3, ownEI lab_int (.slice a (entsTo entM k).length q) (entsTo entM k))] : List (Nat × Itm))) s.1 s.2.1 s.2.2) (fun s : Nat × (Option Addr) × Nat => (fun (k : Nat) (a : Option Addr) (q : Nat) => k ≤ r.length) s.1 s.2.1 s.2.2) (fun s : Nat × (Option Addr) × Nat => (fun (k : Nat) (a : Option Addr) (q : Nat) => r.length - k) s.1 s.2.1 s.2.2) (0, _, _) (sub_cons rfl (sub_cons rfl (sub_cons rfl (sub_cons rfl (sub_cons rfl (sub_cons rfl (sub_cons rfl (sub_cons rfl sub_nil)))))))) rfl (Nat.zero_le _) ?_
    rintro ⟨k, a, q⟩ hinv KL16 hKL16
    simp only [updL, List.foldl_cons, List.foldl_nil, List.set_cons_succ, List.set_cons_zero, List.cons_append, List.nil_append] at hinv hKL16 ⊢
    have hk := hinv
    have hl := entsTo_len entM k
    refine gc_seq fun K17 hK17 => ?_
    refine gc_region ?_
    refine g_v (.free rfl) rfl rfl (qt_lss rfl rfl rfl) ?_
    refine g_nil ?_
    refine gk_then (hK17 _ _ ?_)
    refine gc_seq fun K18 hK18 => ?_
    refine gc_cond rfl (fun hc1 => ?_) (fun hc1 => ?_)
    · try simp only [decide_eq_true_eq, decide_eq_false_iff_not, Bool.not_eq_true', Bool.not_eq_false', Bool.not_eq_eq_eq_not, Bool.not_true, Bool.not_false, ne_eq, Decidable.not_not, Classical.not_not] at hc1
      refine gc_skip ?_
      refine gk_then (hK18 _ _ ?_)
      refine gc_seq fun K19 hK19 => ?_
      refine gc_block ?_
      refine gc_seq fun K20 hK20 => ?_
      refine gc_region ?_
      refine g_v (.free rfl) rfl rfl (qt_move rfl rfl) ?_
      refine g_v (.free rfl) rfl rfl (qt_assign rfl rfl) ?_
      refine g_nil ?_
      refine gk_then (hK20 _ _ ?_)
      refine gc_region ?_
      refine g_v (.free rfl) rfl rfl (qt_build rfl rfl bt_arrowEnds) ?_
      refine g_v (.free rfl) rfl rfl (qt_move rfl rfl) ?_
      refine g_op (.free rfl) fun K22 hK22 => ?_
      refine go_two (n := 2) (m := 3) (m' := 2) (σ := Option Addr × Nat) rfl rfl rfl Try.func40 rfl (by decide) rfl rfl rfl (fun z => rfl) (fun R w M => add_int _ w R _ _ _ _ _ _ _ _ _ _ (by omega) M) ?_
      intro ⟨sa21, sq21⟩
      refine hK22 _ _ ?_
      refine g_nil ?_
      refine gk_block ?_
      refine gk_then (hK19 _ _ ?_)
      refine gc_region ?_
      refine g_v (.free rfl) rfl rfl (qt_add rfl rfl rfl (by omega)) ?_
      refine g_v (.free rfl) rfl rfl (qt_move rfl rfl) ?_
      refine g_nil ?_
      simp only [entM_def, entsTo_succ]
      refine gk_then (gk_take 4 ?_)
      refine gk_sub ?hs_23 (hKL16 (k + 1, _, _) ?hi_23 ?hm_23)
      case hs_23 => exact (sub_cons rfl (sub_cons rfl (sub_cons rfl (sub_cons rfl (sub_cons rfl (sub_cons rfl (sub_cons rfl (sub_cons rfl sub_nil))))))))
      case hi_23 => omega
      case hm_23 => omega
    · try simp only [decide_eq_true_eq, decide_eq_false_iff_not, Bool.not_eq_true', Bool.not_eq_false', Bool.not_eq_eq_eq_not, Bool.not_true, Bool.not_false, ne_eq, Decidable.not_not, Classical.not_not] at hc1
      refine gc_exit ?_
      refine gk_then_exit ?_
      refine gk_then_exit ?_
      refine gk_block_hit ?_
      refine gk_then (hK14 _ _ ?_)
      refine gc_seq fun K24 hK24 => ?_
      obtain rfl : k = r.length := by omega
      refine gc_region ?_
      refine g_v (.free rfl) rfl rfl (qt_loadS (n := 2) rfl rfl Try.underlying53 rfl (by kernel_rfl) rfl) ?_
      refine g_op (.free rfl) fun K26 hK26 => ?_
      refine go_callCI rfl rfl rfl Try.func41 rfl (by decide) rfl (fun w M => build_int w (1 : Int) _ (entsTo entM r.length) (mem_ownE (n := 3) M rfl) (entsTo_nodup fun i j _ _ h => entM_inj i j h) (by omega) _ ([]) (fun _ => 0) (⟨_, Try.func38, rfl, by decide⟩) (fun w' hb x hx => monC1_any w' (x : Int)) _ _ (fun f g => at0 (row2 r f) g) (⟨_, Try.func39, rfl, by decide⟩) (fun w' hb f hf g hg _ => by obtain ⟨i, hi, rfl⟩ := entsTo_mem.1 hf; obtain ⟨j, hj, rfl⟩ := entsTo_mem.1 hg; exact monC2_any w' (i : Int) (j : Int) _ _ r (rd2_below hb (mem_rd2 M hu)) (bxV_below hb (bxV_of (n := 0) M rfl)) hsq (by omega) (by omega) (by omega) (by omega))) ?_
      intro ca25 cb25 cc25 cd25 ce25 cf25 cg25 ch25 cu25
      refine hK26 _ _ ?_
      refine g_v (.free rfl) rfl rfl (qt_extract rfl rfl rfl) ?_
      refine g_v (.free rfl) rfl rfl (qt_extract rfl rfl rfl) ?_
      refine g_op (.free rfl) fun K27 hK27 => ?_
      refine go_storeS (n := 1) rfl rfl rfl rfl (by kernel_rfl) rfl rfl rfl ?_
      refine hK27 _ _ ?_
      refine g_v (.free rfl) rfl rfl (qt_assign rfl rfl) ?_
      refine g_nil ?_
      refine gk_then (hK24 _ _ ?_)
      refine gc_ret ?_
      refine ret_SI (n := 1) rfl rfl rfl Try.underlying25 rfl (by kernel_rfl) rfl (fun w M => ?_)
      have hm := mon_made hM
      exact retCI_eq hm.1 hm.2 ⟨_, rfl, ownC_star (mem_pick (n := 7) (mem_pick (n := 7) (mem_pick (n := 7) (mem_pick (n := 7) (M) rfl) rfl) rfl) rfl).2, M.1⟩


theorem spec_MonoidCategory (w : World) (u : Value) (r : List (List Int)) (hu : Rd2 w u r) : Calls Try.prog 13 #[u] w (RetCI w (fMonoidCategory r).1 (fMonoidCategory r).2) := by
  by_cases hf : FitP (monC r)
  · exact specMon_t w u r hu hf
  · exact specMon_f w u r hu hf

end Go.Proofs.Ytbfenibkbmkcaab
