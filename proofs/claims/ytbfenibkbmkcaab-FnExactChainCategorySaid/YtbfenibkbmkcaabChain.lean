
/- The category of a chain: both sides. -/
import Derived.Test.YtbfenibkbmkcaabPreI
import Derived.Test.YtbfenibkbmkcaabStoU
set_option linter.unusedSimpArgs false
set_option linter.unusedVariables false
set_option linter.unusedSectionVars false
namespace Go.Proofs.Ytbfenibkbmkcaab
open Go.RowKit


/-- The row i of the order, its entries up to the column l. -/
def chC (n i l : Nat) : List Int := tabTo (fun j => if i ≤ j ∧ j < l then 1 else 0) n
def chR (n k : Nat) : List (List Int) := rowsTo (fun i => chC n i n) k
theorem chC_len (n i l : Nat) : (chC n i l).length = n := tabTo_len _ _
theorem chR_len (n k : Nat) : (chR n k).length = k := rowsTo_len _ _
theorem chC_zero (n i : Nat) : List.replicate n 0 = chC n i i := by
  refine List.ext_getElem (by simp [chC, tabTo]) fun j h1 h2 => ?_
  simp only [chC, tabTo, List.getElem_replicate, List.getElem_map, List.getElem_range]
  rw [if_neg (by omega)]
theorem chC_set {n i l : Nat} (h : l < n) (hi : i ≤ l) : (chC n i l).set ((l : Int)).toNat 1 = chC n i (l + 1) := by
  refine List.ext_getElem (by simp [chC, tabTo]) fun j h1 h2 => ?_
  simp only [chC, tabTo, List.getElem_set, List.getElem_map, List.getElem_range, Int.toNat_natCast]
  by_cases e : l = j
  · subst e; rw [if_pos rfl, if_pos (by omega)]
  · rw [if_neg e]
    by_cases hj : i ≤ j ∧ j < l
    · rw [if_pos hj, if_pos (by omega)]
    · rw [if_neg hj, if_neg (by omega)]
theorem chR_succ (n k : Nat) : chR n k ++ [chC n k n] = chR n (k + 1) := by simp only [chR, rowsTo_succ]
theorem chR_at {n i j : Nat} (hi : i < n) (hj : j < n) : at0 (row2 (chR n n) (i : Int)) (j : Int) = if i ≤ j then 1 else 0 := by
  rw [show row2 (chR n n) (i : Int) = chC n i n from rowsTo_at _ hi, show at0 (chC n i n) (j : Int) = _ from tabTo_at _ hj]
  by_cases h : i ≤ j
  · rw [if_pos h, if_pos ⟨h, hj⟩]
  · rw [if_neg h, if_neg (by omega)]
theorem chR_pre (n : Nat) : PreP (chR n n) := by
  have hl := chR_len n n
  refine ⟨fun i hi => ⟨?_, allP_to fun j hj => ?_⟩, fun i hi => ⟨?_, fun j hj m hm h1 h2 => ?_⟩⟩
  · rw [hl] at hi ⊢; rw [show row2 (chR n n) (i : Int) = chC n i n from rowsTo_at _ hi, chC_len]
  · rw [hl] at hi
    rw [show row2 (chR n n) (i : Int) = chC n i n from rowsTo_at _ hi, chC_len] at hj
    rw [chR_at hi hj]; split <;> omega
  · rw [hl] at hi; rw [chR_at hi hi, if_pos (Nat.le_refl _)]
  · rw [hl] at hi hj hm
    rw [chR_at hi hj] at h1
    rw [chR_at hj hm] at h2
    rw [chR_at hi hm]
    by_cases h3 : i ≤ j
    · by_cases h4 : j ≤ m
      · rw [if_pos (Nat.le_trans h3 h4)]
      · rw [if_neg h4] at h2; omega
    · rw [if_neg h3] at h1; omega
noncomputable def fChainCategory (n : Int) : Cat × Int := if 0 ≤ n ∧ n ≤ 8 then fPreorderCategory (chR n.toNat n.toNat) else (cat0, 2)
theorem chain_f {n : Int} (h : ¬ (0 ≤ n ∧ n ≤ 8)) : fChainCategory n = (cat0, 2) := if_neg h
theorem chain_t {m : Nat} (h : m ≤ 8) : fChainCategory (m : Int) = fPreorderCategory (chR m m) := by
  unfold fChainCategory; rw [if_pos (by omega)]; simp
theorem chain_pt {m : Nat} (h : m ≤ 8) (hf : FitP (posetC (chR m m))) : fChainCategory (m : Int) = (posetC (chR m m), 0) := by rw [chain_t h, pre_t (bP_t (chR_pre m)) (by rw [chR_len]; exact h) hf]
theorem chain_pf {m : Nat} (h : m ≤ 8) (hf : ¬ FitP (posetC (chR m m))) : fChainCategory (m : Int) = (cat0, 3) := by rw [chain_t h, pre_l (bP_t (chR_pre m)) (by rw [chR_len]; exact h) hf]
/-- Rows of n places, of which the first k are the order's, and the row k is another. -/
def chS (n k : Nat) (cur : List Int) : List (List Int) := (List.range n).map fun a => if a < k then chC n a n else if a = k then cur else []
theorem chS_len (n k : Nat) (cur : List Int) : (chS n k cur).length = n := by simp [chS]
theorem chS_zero (n : Nat) : List.replicate n [] = chS n 0 [] := by
  refine List.ext_getElem (by simp [chS]) fun j h1 h2 => ?_
  simp only [chS, List.getElem_replicate, List.getElem_map, List.getElem_range]
  rw [if_neg (by omega)]; split <;> rfl
theorem chS_set {n k : Nat} (hk : k < n) (cur c : List Int) : (chS n k cur).set ((k : Int)).toNat c = chS n k c := by
  refine List.ext_getElem (by simp [chS]) fun j h1 h2 => ?_
  simp only [chS, List.getElem_set, List.getElem_map, List.getElem_range, Int.toNat_natCast]
  by_cases e : k = j
  · subst e; rw [if_pos rfl, if_neg (by omega), if_pos rfl]
  · rw [if_neg e]
    by_cases hj : j < k
    · rw [if_pos hj, if_pos hj]
    · rw [if_neg hj, if_neg hj, if_neg (fun h => e h.symm), if_neg (fun h => e h.symm)]
theorem chS_row {n k : Nat} (hk : k < n) (cur : List Int) : row2 (chS n k cur) (k : Int) = cur := by
  simp [row2, chS, List.getD_eq_getElem?_getD, List.getElem?_eq_getElem, hk]
theorem chS_next {n k : Nat} : chS n k (chC n k n) = chS n (k + 1) [] := by
  refine List.ext_getElem (by simp [chS]) fun j h1 h2 => ?_
  simp only [chS, List.getElem_map, List.getElem_range]
  by_cases hj : j < k
  · rw [if_pos hj, if_pos (by omega)]
  · rw [if_neg hj]
    by_cases e : j = k
    · rw [if_pos e, if_pos (by omega), e]
    · rw [if_neg e, if_neg (by omega)]; split <;> rfl
theorem chS_end (n : Nat) : chS n n [] = chR n n := List.map_congr_left fun j hj => if_pos (List.mem_range.1 hj)

set_option maxHeartbeats 1000000 in
set_option maxRecDepth 100000 in
theorem specChain_t (w : World) (m : Nat) (hm : m ≤ 8) (hf : FitP (posetC (chR m m))) :
    Calls Try.prog 7 #[.int .i64 ((m : Int))] w (RetCI w (fChainCategory (m : Int)).1 (fChainCategory (m : Int)).2) := by
  go_enter Try.func7, Try.ntmps7
  refine gc_enter (N := 38) rfl (look_cons (k := 0) rfl (look_nil _)) ?_
  refine gc_seq fun K1 hK1 => ?_
  refine gc_region ?_
  refine g_op (.free rfl) fun K3 hK3 => ?_
  refine go_alloc (z := (.agg #[.int .i64 0, .slice none 0 0, .slice none 0 0, .slice none 0 0, .slice none 0 0])) (cs := [.int .i64 0, .slice none 0 0, .slice none 0 0, .slice none 0 0, .slice none 0 0]) rfl rfl rfl (fun w => by kernel_rfl) rfl ?_
  intro B2
  refine hK3 _ _ ?_
  refine g_v (.free rfl) rfl rfl (qt_assign rfl rfl) ?_
  refine g_nil ?_
  refine gk_then (hK1 _ _ ?_)
  refine gc_seq fun K4 hK4 => ?_
  refine gc_seq fun K5 hK5 => ?_
  refine gc_region ?_
  refine g_v (.free rfl) rfl rfl (qt_move rfl rfl) ?_
  refine g_q (.free rfl) rfl rfl (qt_call rfl Try.func25 rfl (by decide) rfl (fun w M => same_q (specIn_any w _ _ _ _ rfl))) ?_
  refine g_v (.free rfl) rfl rfl (qt_not rfl rfl) ?_
  refine g_nil ?_
  refine gk_then (hK5 _ _ ?_)
  refine gc_cond rfl (fun hc0 => ?_) (fun hc0 => ?_)
  · try simp only [decide_eq_true_eq, decide_eq_false_iff_not, Bool.not_eq_true', Bool.not_eq_false', Bool.not_eq_eq_eq_not, Bool.not_true, Bool.not_false, ne_eq, Decidable.not_not, Classical.not_not] at hc0
    omega
  · try simp only [decide_eq_true_eq, decide_eq_false_iff_not, Bool.not_eq_true', Bool.not_eq_false', Bool.not_eq_eq_eq_not, Bool.not_true, Bool.not_false, ne_eq, Decidable.not_not, Classical.not_not] at hc0
    refine gc_skip ?_
    refine gk_then (hK4 _ _ ?_)
    refine gc_seq fun K6 hK6 => ?_
    refine gc_region ?_
    refine g_op (.free rfl) fun K8 hK8 => ?_
    refine go_sliceR0 rfl rfl rfl Try.underlying23 ?_
    intro B7
    refine hK8 _ _ ?_
    refine g_v (.free rfl) rfl rfl (qt_assign rfl rfl) ?_
    refine g_nil ?_
    refine gk_then (hK6 _ _ ?_)
    refine gc_seq fun K9 hK9 => ?_
    refine gc_seq fun K10 hK10 => ?_
    refine gc_region ?_
    refine g_v (.free rfl) rfl rfl (qt_assign rfl rfl) ?_
    refine g_nil ?_
    refine gk_then (hK10 _ _ ?_)
    refine gc_block ?_
    try simp only [List.nil_append, List.cons_append, List.append_assoc, List.set_cons_succ, List.set_cons_zero]
    refine gc_loop ([(0, _), (2, _), (3, _), (10, _)] : Env) (fun s : Nat × (Option Addr) × Nat × (List Value) => (fun (k : Nat) (a : Option Addr) (q : Nat) (us : List Value) => ([(4, .slice a (chR m k).length q), (5, .int .i64 (k : Int))] : Env)) s.1 s.2.1 s.2.2.1 s.2.2.2) (fun s : Nat × (Option Addr) × Nat × (List Value) => (fun (k : Nat) (a : Option Addr) (q : Nat) (us : List Value) => ([(1, own2U (.slice a (chR m k).length q) us (chR m k))] : List (Nat × Itm))) s.1 s.2.1 s.2.2.1 s.2.2.2) (fun s : Nat × (Option Addr) × Nat × (List Value) => (fun (k : Nat) (a : Option Addr) (q : Nat) (us : List Value) => k ≤ m) s.1 s.2.1 s.2.2.1 s.2.2.2) (fun s : Nat × (Option Addr) × Nat × (List Value) => (fun (k : Nat) (a : Option Addr) (q : Nat) (us : List Value) => m - k) s.1 s.2.1 s.2.2.1 s.2.2.2) (0, _, _, _) (sub_cons rfl (sub_cons rfl (sub_cons rfl (sub_cons rfl (sub_cons rfl (sub_cons rfl sub_nil)))))) rfl (Nat.zero_le _) ?_
    rintro ⟨k, a, q, us⟩ hinv KL11 hKL11
    simp only [updL, List.foldl_cons, List.foldl_nil, List.set_cons_succ, List.set_cons_zero, List.cons_append, List.nil_append] at hinv hKL11 ⊢
    have hk := hinv
    have hr := chR_len m k
    refine gc_seq fun K12 hK12 => ?_
    refine gc_seq fun K13 hK13 => ?_
    refine gc_region ?_
    refine g_v (.free rfl) rfl rfl (qt_move rfl rfl) ?_
    refine g_v (.free rfl) rfl rfl (qt_move rfl rfl) ?_
    refine g_v (.free rfl) rfl rfl (qt_lss rfl rfl rfl) ?_
    refine g_nil ?_
    refine gk_then (hK13 _ _ ?_)
    refine gc_cond rfl (fun hc1 => ?_) (fun hc1 => ?_)
    · try simp only [decide_eq_true_eq, decide_eq_false_iff_not, Bool.not_eq_true', Bool.not_eq_false', Bool.not_eq_eq_eq_not, Bool.not_true, Bool.not_false, ne_eq, Decidable.not_not, Classical.not_not] at hc1
      refine gc_skip ?_
      refine gk_then (hK12 _ _ ?_)
      refine gc_seq fun K14 hK14 => ?_
      refine gc_block ?_
      refine gc_seq fun K15 hK15 => ?_
      refine gc_region ?_
      refine g_v (.free rfl) rfl rfl (qt_move rfl rfl) ?_
      refine g_op (.free rfl) fun K17 hK17 => ?_
      refine go_make1 rfl rfl rfl Try.underlying22 rfl rfl (by omega) ?_
      intro B16
      refine hK17 _ _ ?_
      refine g_v (.free rfl) rfl rfl (qt_assign rfl rfl) ?_
      refine g_nil ?_
      refine gk_then (hK15 _ _ ?_)
      refine gc_seq fun K18 hK18 => ?_
      refine gc_seq fun K19 hK19 => ?_
      refine gc_region ?_
      refine g_v (.free rfl) rfl rfl (qt_move rfl rfl) ?_
      refine g_v (.free rfl) rfl rfl (qt_assign rfl rfl) ?_
      refine g_nil ?_
      refine gk_then (hK19 _ _ ?_)
      refine gc_block ?_
      rw [chC_zero m k]
      try simp only [List.nil_append, List.cons_append, List.append_assoc, List.set_cons_succ, List.set_cons_zero]
      refine gc_loop ([(0, _), (2, _), (3, _), (4, _), (5, _), (6, _), (10, _), (15, _)] : Env) (fun s : Nat => (fun (l : Nat) => ([(7, .int .i64 (l : Int))] : Env)) s) (fun s : Nat => (fun (l : Nat) => ([(2, own1I (.slice (some ⟨B16, 0, none⟩) m m) (chC m k l))] : List (Nat × Itm))) s) (fun s : Nat => (fun (l : Nat) => k ≤ l ∧ l ≤ m) s) (fun s : Nat => (fun (l : Nat) => m - l) s) (k) (sub_cons rfl (sub_cons rfl (sub_cons rfl (sub_cons rfl (sub_cons rfl (sub_cons rfl (sub_cons rfl (sub_cons rfl (sub_cons rfl sub_nil))))))))) rfl ⟨Nat.le_refl _, by omega⟩ ?_
      rintro l hinv KL20 hKL20
      simp only [updL, List.foldl_cons, List.foldl_nil, List.set_cons_succ, List.set_cons_zero, List.cons_append, List.nil_append] at hinv hKL20 ⊢
      obtain ⟨hl0, hl⟩ := hinv
      have hc := chC_len m k l
      refine gc_seq fun K21 hK21 => ?_
      refine gc_seq fun K22 hK22 => ?_
      refine gc_region ?_
      refine g_v (.free rfl) rfl rfl (qt_move rfl rfl) ?_
      refine g_v (.free rfl) rfl rfl (qt_move rfl rfl) ?_
      refine g_v (.free rfl) rfl rfl (qt_lss rfl rfl rfl) ?_
      refine g_nil ?_
      refine gk_then (hK22 _ _ ?_)
      refine gc_cond rfl (fun hc2 => ?_) (fun hc2 => ?_)
      · try simp only [decide_eq_true_eq, decide_eq_false_iff_not, Bool.not_eq_true', Bool.not_eq_false', Bool.not_eq_eq_eq_not, Bool.not_true, Bool.not_false, ne_eq, Decidable.not_not, Classical.not_not] at hc2
        refine gc_skip ?_
        refine gk_then (hK21 _ _ ?_)
        refine gc_seq fun K23 hK23 => ?_
        refine gc_block ?_
        refine gc_region ?_
        refine g_v (.free rfl) rfl rfl (qt_move rfl rfl) ?_
        refine g_v (.free rfl) rfl rfl (qt_move rfl rfl) ?_
        refine g_v (.free rfl) rfl rfl (qt_index rfl rfl rfl ulE1 szE1 (fun w M => lenA_own1 (n := 2) rfl M) (by omega) (by omega)) ?_
        refine g_op (.free rfl) fun K24 hK24 => ?_
        refine go_store1 (n := 2) rfl rfl rfl rfl (by kernel_rfl) rfl (by omega) (by omega) ?_
        refine hK24 _ _ ?_
        refine g_nil ?_
        refine gk_block ?_
        refine gk_then (hK23 _ _ ?_)
        refine gc_region ?_
        refine g_v (.free rfl) rfl rfl (qt_move rfl rfl) ?_
        refine g_v (.free rfl) rfl rfl (qt_add rfl rfl rfl (by omega)) ?_
        refine g_v (.free rfl) rfl rfl (qt_assign rfl rfl) ?_
        refine g_nil ?_
        rw [chC_set (by omega) hl0]
        refine gk_then (gk_take 3 ?_)
        refine gk_sub ?hs_25 (hKL20 (l + 1) ?hi_25 ?hm_25)
        case hs_25 => exact (sub_cons rfl (sub_cons rfl (sub_cons rfl (sub_cons rfl (sub_cons rfl (sub_cons rfl (sub_cons rfl (sub_cons rfl (sub_cons rfl sub_nil)))))))))
        case hi_25 => omega
        case hm_25 => omega
      · try simp only [decide_eq_true_eq, decide_eq_false_iff_not, Bool.not_eq_true', Bool.not_eq_false', Bool.not_eq_eq_eq_not, Bool.not_true, Bool.not_false, ne_eq, Decidable.not_not, Classical.not_not] at hc2
        refine gc_exit ?_
        refine gk_then_exit ?_
        refine gk_then_exit ?_
        refine gk_block_hit ?_
        refine gk_then (hK18 _ _ ?_)
        refine gc_region ?_
        refine g_v (.free rfl) rfl rfl (qt_move rfl rfl) ?_
        refine g_v (.free rfl) rfl rfl (qt_move rfl rfl) ?_
        refine g_op (.free rfl) fun K27 hK27 => ?_
        refine go_sliceR1 (m := 2) rfl rfl rfl rfl Try.underlying23 rfl ?_
        intro B26
        refine hK27 _ _ ?_
        refine g_op (.free rfl) fun K29 hK29 => ?_
        refine go_appendRow (n := 1) (m := 2) (m' := 1) rfl rfl rfl Try.underlying23 rfl rfl rfl rfl rfl (by omega) ?_
        intro va28 vc28
        refine hK29 _ _ ?_
        refine g_v (.free rfl) rfl rfl (qt_assign rfl rfl) ?_
        refine g_nil ?_
        refine gk_block ?_
        refine gk_then (hK14 _ _ ?_)
        refine gc_region ?_
        refine g_v (.free rfl) rfl rfl (qt_move rfl rfl) ?_
        refine g_v (.free rfl) rfl rfl (qt_add rfl rfl rfl (by omega)) ?_
        refine g_v (.free rfl) rfl rfl (qt_assign rfl rfl) ?_
        refine g_nil ?_
        obtain rfl : m = l := by omega
        simp only [chR_succ]
        refine gk_then (gk_take 2 ?_)
        refine gk_sub ?hs_30 (hKL11 (k + 1, _, _, _) ?hi_30 ?hm_30)
        case hs_30 => exact (sub_cons rfl (sub_cons rfl (sub_cons rfl (sub_cons rfl (sub_cons rfl (sub_cons rfl sub_nil))))))
        case hi_30 => omega
        case hm_30 => omega
    · try simp only [decide_eq_true_eq, decide_eq_false_iff_not, Bool.not_eq_true', Bool.not_eq_false', Bool.not_eq_eq_eq_not, Bool.not_true, Bool.not_false, ne_eq, Decidable.not_not, Classical.not_not] at hc1
      refine gc_exit ?_
      refine gk_then_exit ?_
      refine gk_then_exit ?_
      refine gk_block_hit ?_
      refine gk_then (hK9 _ _ ?_)
      refine gc_seq fun K31 hK31 => ?_
      obtain rfl : m = k := by omega
      refine gc_region ?_
      refine g_v (.free rfl) rfl rfl (qt_move rfl rfl) ?_
      refine g_op (.free rfl) fun K33 hK33 => ?_
      refine go_callC rfl rfl rfl Try.func27 rfl (by decide) rfl (fun w M => specPoset_any w _ _ (mem_rdU (n := 1) M rfl) (chR_pre m).1 (by rw [chR_len]; exact hm)) ?_
      intro ca32 cb32 cc32 cd32 ce32 cf32 cg32 ch32 cu32
      refine hK33 _ _ ?_
      refine g_q (.free rfl) rfl rfl (qt_call rfl Try.func26 rfl (by decide) rfl (fun w M => specMade_t w _ _ (rdC_mk ((mem_own1 (n := 2) M rfl).rd) ((mem_own1 (n := 3) M rfl).rd) ((mem_own1 (n := 4) M rfl).rd) (mem_rdU (n := 5) M rfl)) (hf))) ?_
      refine g_v (.free rfl) rfl rfl (qt_extract rfl rfl rfl) ?_
      refine g_v (.free rfl) rfl rfl (qt_extract rfl rfl rfl) ?_
      refine g_op (.free rfl) fun K34 hK34 => ?_
      refine go_storeS (n := 0) rfl rfl rfl rfl (by kernel_rfl) rfl rfl rfl ?_
      refine hK34 _ _ ?_
      refine g_v (.free rfl) rfl rfl (qt_assign rfl rfl) ?_
      refine g_nil ?_
      refine gk_then (hK31 _ _ ?_)
      refine gc_ret ?_
      refine ret_SI (n := 0) rfl rfl rfl Try.underlying25 rfl (by kernel_rfl) rfl (fun w M => ?_)
      rw [chain_pt hm hf]; exact ⟨_, rfl, ownC_star (c := posetC (chR m m)) (mem_pick (n := 5) (mem_pick (n := 5) (mem_pick (n := 5) (mem_pick (n := 5) (M) rfl) rfl) rfl) rfl).2, M.1⟩

set_option maxHeartbeats 1000000 in
set_option maxRecDepth 100000 in
theorem specChain_f (w : World) (m : Nat) (hm : m ≤ 8) (hf : ¬ FitP (posetC (chR m m))) :
    Calls Try.prog 7 #[.int .i64 ((m : Int))] w (RetCI w (fChainCategory (m : Int)).1 (fChainCategory (m : Int)).2) := by
  go_enter Try.func7, Try.ntmps7
  refine gc_enter (N := 38) rfl (look_cons (k := 0) rfl (look_nil _)) ?_
  refine gc_seq fun K1 hK1 => ?_
  refine gc_region ?_
  refine g_op (.free rfl) fun K3 hK3 => ?_
  refine go_alloc (z := (.agg #[.int .i64 0, .slice none 0 0, .slice none 0 0, .slice none 0 0, .slice none 0 0])) (cs := [.int .i64 0, .slice none 0 0, .slice none 0 0, .slice none 0 0, .slice none 0 0]) rfl rfl rfl (fun w => by kernel_rfl) rfl ?_
  intro B2
  refine hK3 _ _ ?_
  refine g_v (.free rfl) rfl rfl (qt_assign rfl rfl) ?_
  refine g_nil ?_
  refine gk_then (hK1 _ _ ?_)
  refine gc_seq fun K4 hK4 => ?_
  refine gc_seq fun K5 hK5 => ?_
  refine gc_region ?_
  refine g_v (.free rfl) rfl rfl (qt_move rfl rfl) ?_
  refine g_q (.free rfl) rfl rfl (qt_call rfl Try.func25 rfl (by decide) rfl (fun w M => same_q (specIn_any w _ _ _ _ rfl))) ?_
  refine g_v (.free rfl) rfl rfl (qt_not rfl rfl) ?_
  refine g_nil ?_
  refine gk_then (hK5 _ _ ?_)
  refine gc_cond rfl (fun hc0 => ?_) (fun hc0 => ?_)
  · try simp only [decide_eq_true_eq, decide_eq_false_iff_not, Bool.not_eq_true', Bool.not_eq_false', Bool.not_eq_eq_eq_not, Bool.not_true, Bool.not_false, ne_eq, Decidable.not_not, Classical.not_not] at hc0
    omega
  · try simp only [decide_eq_true_eq, decide_eq_false_iff_not, Bool.not_eq_true', Bool.not_eq_false', Bool.not_eq_eq_eq_not, Bool.not_true, Bool.not_false, ne_eq, Decidable.not_not, Classical.not_not] at hc0
    refine gc_skip ?_
    refine gk_then (hK4 _ _ ?_)
    refine gc_seq fun K6 hK6 => ?_
    refine gc_region ?_
    refine g_op (.free rfl) fun K8 hK8 => ?_
    refine go_sliceR0 rfl rfl rfl Try.underlying23 ?_
    intro B7
    refine hK8 _ _ ?_
    refine g_v (.free rfl) rfl rfl (qt_assign rfl rfl) ?_
    refine g_nil ?_
    refine gk_then (hK6 _ _ ?_)
    refine gc_seq fun K9 hK9 => ?_
    refine gc_seq fun K10 hK10 => ?_
    refine gc_region ?_
    refine g_v (.free rfl) rfl rfl (qt_assign rfl rfl) ?_
    refine g_nil ?_
    refine gk_then (hK10 _ _ ?_)
    refine gc_block ?_
    try simp only [List.nil_append, List.cons_append, List.append_assoc, List.set_cons_succ, List.set_cons_zero]
    refine gc_loop ([(0, _), (2, _), (3, _), (10, _)] : Env) (fun s : Nat × (Option Addr) × Nat × (List Value) => (fun (k : Nat) (a : Option Addr) (q : Nat) (us : List Value) => ([(4, .slice a (chR m k).length q), (5, .int .i64 (k : Int))] : Env)) s.1 s.2.1 s.2.2.1 s.2.2.2) (fun s : Nat × (Option Addr) × Nat × (List Value) => (fun (k : Nat) (a : Option Addr) (q : Nat) (us : List Value) => ([(1, own2U (.slice a (chR m k).length q) us (chR m k))] : List (Nat × Itm))) s.1 s.2.1 s.2.2.1 s.2.2.2) (fun s : Nat × (Option Addr) × Nat × (List Value) => (fun (k : Nat) (a : Option Addr) (q : Nat) (us : List Value) => k ≤ m) s.1 s.2.1 s.2.2.1 s.2.2.2) (fun s : Nat × (Option Addr) × Nat × (List Value) => (fun (k : Nat) (a : Option Addr) (q : Nat) (us : List Value) => m - k) s.1 s.2.1 s.2.2.1 s.2.2.2) (0, _, _, _) (sub_cons rfl (sub_cons rfl (sub_cons rfl (sub_cons rfl (sub_cons rfl (sub_cons rfl sub_nil)))))) rfl (Nat.zero_le _) ?_
    rintro ⟨k, a, q, us⟩ hinv KL11 hKL11
    simp only [updL, List.foldl_cons, List.foldl_nil, List.set_cons_succ, List.set_cons_zero, List.cons_append, List.nil_append] at hinv hKL11 ⊢
    have hk := hinv
    have hr := chR_len m k
    refine gc_seq fun K12 hK12 => ?_
    refine gc_seq fun K13 hK13 => ?_
    refine gc_region ?_
    refine g_v (.free rfl) rfl rfl (qt_move rfl rfl) ?_
    refine g_v (.free rfl) rfl rfl (qt_move rfl rfl) ?_
    refine g_v (.free rfl) rfl rfl (qt_lss rfl rfl rfl) ?_
    refine g_nil ?_
    refine gk_then (hK13 _ _ ?_)
    refine gc_cond rfl (fun hc1 => ?_) (fun hc1 => ?_)
    · try simp only [decide_eq_true_eq, decide_eq_false_iff_not, Bool.not_eq_true', Bool.not_eq_false', Bool.not_eq_eq_eq_not, Bool.not_true, Bool.not_false, ne_eq, Decidable.not_not, Classical.not_not] at hc1
      refine gc_skip ?_
      refine gk_then (hK12 _ _ ?_)
      refine gc_seq fun K14 hK14 => ?_
      refine gc_block ?_
      refine gc_seq fun K15 hK15 => ?_
      refine gc_region ?_
      refine g_v (.free rfl) rfl rfl (qt_move rfl rfl) ?_
      refine g_op (.free rfl) fun K17 hK17 => ?_
      refine go_make1 rfl rfl rfl Try.underlying22 rfl rfl (by omega) ?_
      intro B16
      refine hK17 _ _ ?_
      refine g_v (.free rfl) rfl rfl (qt_assign rfl rfl) ?_
      refine g_nil ?_
      refine gk_then (hK15 _ _ ?_)
      refine gc_seq fun K18 hK18 => ?_
      refine gc_seq fun K19 hK19 => ?_
      refine gc_region ?_
      refine g_v (.free rfl) rfl rfl (qt_move rfl rfl) ?_
      refine g_v (.free rfl) rfl rfl (qt_assign rfl rfl) ?_
      refine g_nil ?_
      refine gk_then (hK19 _ _ ?_)
      refine gc_block ?_
      rw [chC_zero m k]
      try simp only [List.nil_append, List.cons_append, List.append_assoc, List.set_cons_succ, List.set_cons_zero]
      refine gc_loop ([(0, _), (2, _), (3, _), (4, _), (5, _), (6, _), (10, _), (15, _)] : Env) (fun s : Nat => (fun (l : Nat) => ([(7, .int .i64 (l : Int))] : Env)) s) (fun s : Nat => (fun (l : Nat) => ([(2, own1I (.slice (some ⟨B16, 0, none⟩) m m) (chC m k l))] : List (Nat × Itm))) s) (fun s : Nat => (fun (l : Nat) => k ≤ l ∧ l ≤ m) s) (fun s : Nat => (fun (l : Nat) => m - l) s) (k) (sub_cons rfl (sub_cons rfl (sub_cons rfl (sub_cons rfl (sub_cons rfl (sub_cons rfl (sub_cons rfl (sub_cons rfl (sub_cons rfl sub_nil))))))))) rfl ⟨Nat.le_refl _, by omega⟩ ?_
      rintro l hinv KL20 hKL20
      simp only [updL, List.foldl_cons, List.foldl_nil, List.set_cons_succ, List.set_cons_zero, List.cons_append, List.nil_append] at hinv hKL20 ⊢
      obtain ⟨hl0, hl⟩ := hinv
      have hc := chC_len m k l
      refine gc_seq fun K21 hK21 => ?_
      refine gc_seq fun K22 hK22 => ?_
      refine gc_region ?_
      refine g_v (.free rfl) rfl rfl (qt_move rfl rfl) ?_
      refine g_v (.free rfl) rfl rfl (qt_move rfl rfl) ?_
      refine g_v (.free rfl) rfl rfl (qt_lss rfl rfl rfl) ?_
      refine g_nil ?_
      refine gk_then (hK22 _ _ ?_)
      refine gc_cond rfl (fun hc2 => ?_) (fun hc2 => ?_)
      · try simp only [decide_eq_true_eq, decide_eq_false_iff_not, Bool.not_eq_true', Bool.not_eq_false', Bool.not_eq_eq_eq_not, Bool.not_true, Bool.not_false, ne_eq, Decidable.not_not, Classical.not_not] at hc2
        refine gc_skip ?_
        refine gk_then (hK21 _ _ ?_)
        refine gc_seq fun K23 hK23 => ?_
        refine gc_block ?_
        refine gc_region ?_
        refine g_v (.free rfl) rfl rfl (qt_move rfl rfl) ?_
        refine g_v (.free rfl) rfl rfl (qt_move rfl rfl) ?_
        refine g_v (.free rfl) rfl rfl (qt_index rfl rfl rfl ulE1 szE1 (fun w M => lenA_own1 (n := 2) rfl M) (by omega) (by omega)) ?_
        refine g_op (.free rfl) fun K24 hK24 => ?_
        refine go_store1 (n := 2) rfl rfl rfl rfl (by kernel_rfl) rfl (by omega) (by omega) ?_
        refine hK24 _ _ ?_
        refine g_nil ?_
        refine gk_block ?_
        refine gk_then (hK23 _ _ ?_)
        refine gc_region ?_
        refine g_v (.free rfl) rfl rfl (qt_move rfl rfl) ?_
        refine g_v (.free rfl) rfl rfl (qt_add rfl rfl rfl (by omega)) ?_
        refine g_v (.free rfl) rfl rfl (qt_assign rfl rfl) ?_
        refine g_nil ?_
        rw [chC_set (by omega) hl0]
        refine gk_then (gk_take 3 ?_)
        refine gk_sub ?hs_25 (hKL20 (l + 1) ?hi_25 ?hm_25)
        case hs_25 => exact (sub_cons rfl (sub_cons rfl (sub_cons rfl (sub_cons rfl (sub_cons rfl (sub_cons rfl (sub_cons rfl (sub_cons rfl (sub_cons rfl sub_nil)))))))))
        case hi_25 => omega
        case hm_25 => omega
      · try simp only [decide_eq_true_eq, decide_eq_false_iff_not, Bool.not_eq_true', Bool.not_eq_false', Bool.not_eq_eq_eq_not, Bool.not_true, Bool.not_false, ne_eq, Decidable.not_not, Classical.not_not] at hc2
        refine gc_exit ?_
        refine gk_then_exit ?_
        refine gk_then_exit ?_
        refine gk_block_hit ?_
        refine gk_then (hK18 _ _ ?_)
        refine gc_region ?_
        refine g_v (.free rfl) rfl rfl (qt_move rfl rfl) ?_
        refine g_v (.free rfl) rfl rfl (qt_move rfl rfl) ?_
        refine g_op (.free rfl) fun K27 hK27 => ?_
        refine go_sliceR1 (m := 2) rfl rfl rfl rfl Try.underlying23 rfl ?_
        intro B26
        refine hK27 _ _ ?_
        refine g_op (.free rfl) fun K29 hK29 => ?_
        refine go_appendRow (n := 1) (m := 2) (m' := 1) rfl rfl rfl Try.underlying23 rfl rfl rfl rfl rfl (by omega) ?_
        intro va28 vc28
        refine hK29 _ _ ?_
        refine g_v (.free rfl) rfl rfl (qt_assign rfl rfl) ?_
        refine g_nil ?_
        refine gk_block ?_
        refine gk_then (hK14 _ _ ?_)
        refine gc_region ?_
        refine g_v (.free rfl) rfl rfl (qt_move rfl rfl) ?_
        refine g_v (.free rfl) rfl rfl (qt_add rfl rfl rfl (by omega)) ?_
        refine g_v (.free rfl) rfl rfl (qt_assign rfl rfl) ?_
        refine g_nil ?_
        obtain rfl : m = l := by omega
        simp only [chR_succ]
        refine gk_then (gk_take 2 ?_)
        refine gk_sub ?hs_30 (hKL11 (k + 1, _, _, _) ?hi_30 ?hm_30)
        case hs_30 => exact (sub_cons rfl (sub_cons rfl (sub_cons rfl (sub_cons rfl (sub_cons rfl (sub_cons rfl sub_nil))))))
        case hi_30 => omega
        case hm_30 => omega
    · try simp only [decide_eq_true_eq, decide_eq_false_iff_not, Bool.not_eq_true', Bool.not_eq_false', Bool.not_eq_eq_eq_not, Bool.not_true, Bool.not_false, ne_eq, Decidable.not_not, Classical.not_not] at hc1
      refine gc_exit ?_
      refine gk_then_exit ?_
      refine gk_then_exit ?_
      refine gk_block_hit ?_
      refine gk_then (hK9 _ _ ?_)
      refine gc_seq fun K31 hK31 => ?_
      obtain rfl : m = k := by omega
      refine gc_region ?_
      refine g_v (.free rfl) rfl rfl (qt_move rfl rfl) ?_
      refine g_op (.free rfl) fun K33 hK33 => ?_
      refine go_callC rfl rfl rfl Try.func27 rfl (by decide) rfl (fun w M => specPoset_any w _ _ (mem_rdU (n := 1) M rfl) (chR_pre m).1 (by rw [chR_len]; exact hm)) ?_
      intro ca32 cb32 cc32 cd32 ce32 cf32 cg32 ch32 cu32
      refine hK33 _ _ ?_
      refine g_q (.free rfl) rfl rfl (qt_call rfl Try.func26 rfl (by decide) rfl (fun w M => specMade_f w _ _ (rdC_mk ((mem_own1 (n := 2) M rfl).rd) ((mem_own1 (n := 3) M rfl).rd) ((mem_own1 (n := 4) M rfl).rd) (mem_rdU (n := 5) M rfl)) (hf))) ?_
      refine g_v (.free rfl) rfl rfl (qt_extract rfl rfl rfl) ?_
      refine g_v (.free rfl) rfl rfl (qt_extract rfl rfl rfl) ?_
      refine g_op (.free rfl) fun K34 hK34 => ?_
      refine go_storeS (n := 0) rfl rfl rfl rfl (by kernel_rfl) rfl rfl rfl ?_
      refine hK34 _ _ ?_
      refine g_v (.free rfl) rfl rfl (qt_assign rfl rfl) ?_
      refine g_nil ?_
      refine gk_then (hK31 _ _ ?_)
      refine gc_ret ?_
      refine ret_SI (n := 0) rfl rfl rfl Try.underlying25 rfl (by kernel_rfl) rfl (fun w M => ?_)
      rw [chain_pf hm hf]; exact ⟨_, rfl, ownC_zero _ _, M.1⟩

set_option maxHeartbeats 1000000 in
set_option maxRecDepth 100000 in
theorem specChain_n (w : World) (n : Int) (h : ¬ (0 ≤ n ∧ n ≤ 8)) :
    Calls Try.prog 7 #[.int .i64 n] w (RetCI w (fChainCategory n).1 (fChainCategory n).2) := by
  go_enter Try.func7, Try.ntmps7
  refine gc_enter (N := 38) rfl (look_cons (k := 0) rfl (look_nil _)) ?_
  refine gc_seq fun K1 hK1 => ?_
  refine gc_region ?_
  refine g_op (.free rfl) fun K3 hK3 => ?_
  refine go_alloc (z := (.agg #[.int .i64 0, .slice none 0 0, .slice none 0 0, .slice none 0 0, .slice none 0 0])) (cs := [.int .i64 0, .slice none 0 0, .slice none 0 0, .slice none 0 0, .slice none 0 0]) rfl rfl rfl (fun w => by kernel_rfl) rfl ?_
  intro B2
  refine hK3 _ _ ?_
  refine g_v (.free rfl) rfl rfl (qt_assign rfl rfl) ?_
  refine g_nil ?_
  refine gk_then (hK1 _ _ ?_)
  refine gc_seq fun K4 hK4 => ?_
  refine gc_seq fun K5 hK5 => ?_
  refine gc_region ?_
  refine g_v (.free rfl) rfl rfl (qt_move rfl rfl) ?_
  refine g_q (.free rfl) rfl rfl (qt_call rfl Try.func25 rfl (by decide) rfl (fun w M => same_q (specIn_any w _ _ _ _ rfl))) ?_
  refine g_v (.free rfl) rfl rfl (qt_not rfl rfl) ?_
  refine g_nil ?_
  refine gk_then (hK5 _ _ ?_)
  refine gc_cond rfl (fun hc0 => ?_) (fun hc0 => ?_)
  · try simp only [decide_eq_true_eq, decide_eq_false_iff_not, Bool.not_eq_true', Bool.not_eq_false', Bool.not_eq_eq_eq_not, Bool.not_true, Bool.not_false, ne_eq, Decidable.not_not, Classical.not_not] at hc0
    refine gc_seq fun K6 hK6 => ?_
    refine gc_region ?_
    refine g_v (.free rfl) rfl rfl (qt_build rfl rfl bt0_Category) ?_
    refine g_op (.free rfl) fun K7 hK7 => ?_
    refine go_storeS (n := 0) rfl rfl rfl rfl (by kernel_rfl) rfl rfl rfl ?_
    refine hK7 _ _ ?_
    refine g_v (.free rfl) rfl rfl (qt_assign rfl rfl) ?_
    refine g_nil ?_
    refine gk_then (hK6 _ _ ?_)
    refine gc_ret ?_
    refine gk_then_ret ?_
    refine ret_SI (n := 0) rfl rfl rfl Try.underlying25 rfl (by kernel_rfl) rfl (fun w M => ?_)
    rw [chain_f h]; exact ⟨_, rfl, ownC_zero _ _, M.1⟩
  · try simp only [decide_eq_true_eq, decide_eq_false_iff_not, Bool.not_eq_true', Bool.not_eq_false', Bool.not_eq_eq_eq_not, Bool.not_true, Bool.not_false, ne_eq, Decidable.not_not, Classical.not_not] at hc0
    exact absurd hc0 h

set_option maxHeartbeats 1000000 in
set_option maxRecDepth 100000 in
theorem implChain_t (w : World) (m : Nat) (hm : m ≤ 8) :
    Calls Try.prog 8 #[.int .i64 ((m : Int))] w (RetCI w (fChainCategory (m : Int)).1 (fChainCategory (m : Int)).2) := by
  have hr0 := chS_len m 0 []
  go_enter Try.func8, Try.ntmps8
  refine gc_enter (N := 41) rfl (look_cons (k := 0) rfl (look_nil _)) ?_
  refine gc_seq fun K1 hK1 => ?_
  refine gc_region ?_
  refine g_op (.free rfl) fun K3 hK3 => ?_
  refine go_alloc (z := (.agg #[.int .i64 0, .slice none 0 0, .slice none 0 0, .slice none 0 0, .slice none 0 0])) (cs := [.int .i64 0, .slice none 0 0, .slice none 0 0, .slice none 0 0, .slice none 0 0]) rfl rfl rfl (fun w => by kernel_rfl) rfl ?_
  intro B2
  refine hK3 _ _ ?_
  refine g_v (.free rfl) rfl rfl (qt_assign rfl rfl) ?_
  refine g_nil ?_
  refine gk_then (hK1 _ _ ?_)
  refine gc_seq fun K4 hK4 => ?_
  refine gc_seq fun K5 hK5 => ?_
  refine gc_region ?_
  refine g_v (.free rfl) rfl rfl (qt_move rfl rfl) ?_
  refine g_q (.free rfl) rfl rfl (qt_call rfl Try.func28 rfl (by decide) rfl (fun w M => isObCount_any w _)) ?_
  refine g_v (.free rfl) rfl rfl (qt_not rfl rfl) ?_
  refine g_nil ?_
  refine gk_then (hK5 _ _ ?_)
  refine gc_cond rfl (fun hc0 => ?_) (fun hc0 => ?_)
  · try simp only [decide_eq_true_eq, decide_eq_false_iff_not, Bool.not_eq_true', Bool.not_eq_false', Bool.not_eq_eq_eq_not, Bool.not_true, Bool.not_false, ne_eq, Decidable.not_not, Classical.not_not] at hc0
    omega
  · try simp only [decide_eq_true_eq, decide_eq_false_iff_not, Bool.not_eq_true', Bool.not_eq_false', Bool.not_eq_eq_eq_not, Bool.not_true, Bool.not_false, ne_eq, Decidable.not_not, Classical.not_not] at hc0
    refine gc_skip ?_
    refine gk_then (hK4 _ _ ?_)
    refine gc_seq fun K6 hK6 => ?_
    refine gc_region ?_
    refine g_v (.free rfl) rfl rfl (qt_move rfl rfl) ?_
    refine g_op (.free rfl) fun K8 hK8 => ?_
    refine go_make2 rfl rfl rfl Try.underlying23 rfl rfl (by omega) ?_
    intro B7
    refine hK8 _ _ ?_
    refine g_v (.free rfl) rfl rfl (qt_assign rfl rfl) ?_
    refine g_nil ?_
    refine gk_then (hK6 _ _ ?_)
    refine gc_seq fun K9 hK9 => ?_
    refine gc_seq fun K10 hK10 => ?_
    refine gc_region ?_
    refine g_v (.free rfl) rfl rfl (qt_move rfl rfl) ?_
    refine g_v (.free rfl) rfl rfl (qt_len rfl rfl ulE2 (fun w M => lenV_U (n := 1) rfl M)) ?_
    refine g_v (.free rfl) rfl rfl (qt_move rfl rfl) ?_
    refine g_nil ?_
    refine gk_then (hK10 _ _ ?_)
    refine gc_block ?_
    rw [chS_zero m]
    try simp only [List.nil_append, List.cons_append, List.append_assoc, List.set_cons_succ, List.set_cons_zero]
    refine gc_loop ([(0, _), (2, _), (3, _), (4, _), (9, _), (14, _)] : Env) (fun s : Nat × (List Value) => (fun (k : Nat) (us : List Value) => ([(15, .int .i64 (k : Int))] : Env)) s.1 s.2) (fun s : Nat × (List Value) => (fun (k : Nat) (us : List Value) => ([(1, own2U (.slice (some ⟨B7, 0, none⟩) m m) us (chS m k []))] : List (Nat × Itm))) s.1 s.2) (fun s : Nat × (List Value) => (fun (k : Nat) (us : List Value) => k ≤ m) s.1 s.2) (fun s : Nat × (List Value) => (fun (k : Nat) (us : List Value) => m - k) s.1 s.2) (0, _) (sub_cons rfl (sub_cons rfl (sub_cons rfl (sub_cons rfl (sub_cons rfl (sub_cons rfl (sub_cons rfl sub_nil))))))) rfl (Nat.zero_le _) ?_
    rintro ⟨k, us⟩ hinv KL11 hKL11
    simp only [updL, List.foldl_cons, List.foldl_nil, List.set_cons_succ, List.set_cons_zero, List.cons_append, List.nil_append] at hinv hKL11 ⊢
    have hk := hinv
    have hr := chS_len m k []
    refine gc_seq fun K12 hK12 => ?_
    refine gc_region ?_
    refine g_v (.free rfl) rfl rfl (qt_lss rfl rfl rfl) ?_
    refine g_nil ?_
    refine gk_then (hK12 _ _ ?_)
    refine gc_seq fun K13 hK13 => ?_
    refine gc_cond rfl (fun hc1 => ?_) (fun hc1 => ?_)
    · try simp only [decide_eq_true_eq, decide_eq_false_iff_not, Bool.not_eq_true', Bool.not_eq_false', Bool.not_eq_eq_eq_not, Bool.not_true, Bool.not_false, ne_eq, Decidable.not_not, Classical.not_not] at hc1
      refine gc_skip ?_
      refine gk_then (hK13 _ _ ?_)
      refine gc_seq fun K14 hK14 => ?_
      refine gc_block ?_
      refine gc_seq fun K15 hK15 => ?_
      refine gc_region ?_
      refine g_v (.free rfl) rfl rfl (qt_move rfl rfl) ?_
      refine g_v (.free rfl) rfl rfl (qt_assign rfl rfl) ?_
      refine g_nil ?_
      refine gk_then (hK15 _ _ ?_)
      refine gc_seq fun K16 hK16 => ?_
      refine gc_region ?_
      refine g_v (.free rfl) rfl rfl (qt_move rfl rfl) ?_
      refine g_v (.free rfl) rfl rfl (qt_move rfl rfl) ?_
      refine g_v (.free rfl) rfl rfl (qt_move rfl rfl) ?_
      refine g_op (.free rfl) fun K18 hK18 => ?_
      refine go_make1 rfl rfl rfl Try.underlying22 rfl rfl (by omega) ?_
      intro B17
      refine hK18 _ _ ?_
      refine g_v (.free rfl) rfl rfl (qt_index rfl rfl rfl ulE2 szE2 (fun w M => lenA_U (n := 1) rfl M) (by omega) (by omega)) ?_
      refine g_op (.free rfl) fun K19 hK19 => ?_
      refine go_storeRow (n := 1) (m := 2) (m' := 1) rfl rfl rfl rfl (by kernel_rfl) rfl rfl rfl (by omega) (by omega) ?_
      refine hK19 _ _ ?_
      refine g_nil ?_
      refine gk_then (hK16 _ _ ?_)
      refine gc_seq fun K20 hK20 => ?_
      refine gc_region ?_
      refine g_v (.free rfl) rfl rfl (qt_move rfl rfl) ?_
      refine g_v (.free rfl) rfl rfl (qt_assign rfl rfl) ?_
      refine g_nil ?_
      refine gk_then (hK20 _ _ ?_)
      refine gc_block ?_
      rw [chS_set (by omega), chC_zero m k]
      try simp only [List.nil_append, List.cons_append, List.append_assoc, List.set_cons_succ, List.set_cons_zero]
      refine gc_loop ([(0, _), (2, _), (3, _), (4, _), (5, _), (9, _), (14, _), (15, _), (16, _)] : Env) (fun s : Nat × (List Value) => (fun (l : Nat) (vs : List Value) => ([(6, .int .i64 (l : Int))] : Env)) s.1 s.2) (fun s : Nat × (List Value) => (fun (l : Nat) (vs : List Value) => ([(1, own2U (.slice (some ⟨B7, 0, none⟩) m m) vs (chS m k (chC m k l)))] : List (Nat × Itm))) s.1 s.2) (fun s : Nat × (List Value) => (fun (l : Nat) (vs : List Value) => k ≤ l ∧ l ≤ m) s.1 s.2) (fun s : Nat × (List Value) => (fun (l : Nat) (vs : List Value) => m - l) s.1 s.2) (k, _) (sub_cons rfl (sub_cons rfl (sub_cons rfl (sub_cons rfl (sub_cons rfl (sub_cons rfl (sub_cons rfl (sub_cons rfl (sub_cons rfl (sub_cons rfl sub_nil)))))))))) rfl ⟨Nat.le_refl _, by omega⟩ ?_
      rintro ⟨l, vs⟩ hinv KL21 hKL21
      simp only [updL, List.foldl_cons, List.foldl_nil, List.set_cons_succ, List.set_cons_zero, List.cons_append, List.nil_append] at hinv hKL21 ⊢
      obtain ⟨hl0, hl⟩ := hinv
      have hr2 := chS_len m k (chC m k l)
      have hr3 : (row2 (chS m k (chC m k l)) (k : Int)).length = m := by rw [chS_row (by omega), chC_len]
      refine gc_seq fun K22 hK22 => ?_
      refine gc_seq fun K23 hK23 => ?_
      refine gc_region ?_
      refine g_v (.free rfl) rfl rfl (qt_move rfl rfl) ?_
      refine g_v (.free rfl) rfl rfl (qt_move rfl rfl) ?_
      refine g_v (.free rfl) rfl rfl (qt_len rfl rfl ulE2 (fun w M => lenV_U (n := 1) rfl M)) ?_
      refine g_v (.free rfl) rfl rfl (qt_lss rfl rfl rfl) ?_
      refine g_nil ?_
      refine gk_then (hK23 _ _ ?_)
      refine gc_cond rfl (fun hc2 => ?_) (fun hc2 => ?_)
      · try simp only [decide_eq_true_eq, decide_eq_false_iff_not, Bool.not_eq_true', Bool.not_eq_false', Bool.not_eq_eq_eq_not, Bool.not_true, Bool.not_false, ne_eq, Decidable.not_not, Classical.not_not] at hc2
        refine gc_skip ?_
        refine gk_then (hK22 _ _ ?_)
        refine gc_seq fun K24 hK24 => ?_
        refine gc_block ?_
        refine gc_region ?_
        refine g_v (.free rfl) rfl rfl (qt_move rfl rfl) ?_
        refine g_v (.free rfl) rfl rfl (qt_move rfl rfl) ?_
        refine g_v (.free rfl) rfl rfl (qt_index rfl rfl rfl ulE2 szE2 (fun w M => lenA_U (n := 1) rfl M) (by omega) (by omega)) ?_
        refine g_v (.free rfl) rfl rfl (qt_loadU (n := 1) rfl rfl Try.underlying22 rfl rfl (by omega) (by omega)) ?_
        refine g_v (.free rfl) rfl rfl (qt_move rfl rfl) ?_
        refine g_v (.free rfl) rfl rfl (qt_index rfl rfl rfl ulE1 szE1 (fun w M => lenA_row (n := 1) rfl (by omega) (by omega) M) (by omega) (by omega)) ?_
        refine g_op (.free rfl) fun K25 hK25 => ?_
        refine go_storeU (n := 1) rfl rfl rfl rfl (by kernel_rfl) rfl (by omega) (by omega) (by omega) (by omega) ?_
        refine hK25 _ _ ?_
        refine g_nil ?_
        refine gk_block ?_
        refine gk_then (hK24 _ _ ?_)
        refine gc_region ?_
        refine g_v (.free rfl) rfl rfl (qt_move rfl rfl) ?_
        refine g_v (.free rfl) rfl rfl (qt_add rfl rfl rfl (by omega)) ?_
        refine g_v (.free rfl) rfl rfl (qt_assign rfl rfl) ?_
        refine g_nil ?_
        rw [chS_row (by omega), chC_set (by omega) hl0, chS_set (by omega)]
        refine gk_then (gk_take 3 ?_)
        refine gk_sub ?hs_26 (hKL21 (l + 1, _) ?hi_26 ?hm_26)
        case hs_26 => exact (sub_cons rfl (sub_cons rfl (sub_cons rfl (sub_cons rfl (sub_cons rfl (sub_cons rfl (sub_cons rfl (sub_cons rfl (sub_cons rfl (sub_cons rfl sub_nil))))))))))
        case hi_26 => omega
        case hm_26 => omega
      · try simp only [decide_eq_true_eq, decide_eq_false_iff_not, Bool.not_eq_true', Bool.not_eq_false', Bool.not_eq_eq_eq_not, Bool.not_true, Bool.not_false, ne_eq, Decidable.not_not, Classical.not_not] at hc2
        refine gc_exit ?_
        refine gk_then_exit ?_
        refine gk_then_exit ?_
        refine gk_block_hit ?_
        refine gk_block ?_
        refine gk_then (hK14 _ _ ?_)
        refine gc_region ?_
        refine g_v (.free rfl) rfl rfl (qt_add rfl rfl rfl (by omega)) ?_
        refine g_v (.free rfl) rfl rfl (qt_move rfl rfl) ?_
        refine g_nil ?_
        obtain rfl : m = l := by omega
        rw [chS_next]
        refine gk_then (gk_take 2 ?_)
        refine gk_sub ?hs_27 (hKL11 (k + 1, _) ?hi_27 ?hm_27)
        case hs_27 => exact (sub_cons rfl (sub_cons rfl (sub_cons rfl (sub_cons rfl (sub_cons rfl (sub_cons rfl (sub_cons rfl sub_nil)))))))
        case hi_27 => omega
        case hm_27 => omega
    · try simp only [decide_eq_true_eq, decide_eq_false_iff_not, Bool.not_eq_true', Bool.not_eq_false', Bool.not_eq_eq_eq_not, Bool.not_true, Bool.not_false, ne_eq, Decidable.not_not, Classical.not_not] at hc1
      refine gc_exit ?_
      refine gk_then_exit ?_
      refine gk_then_exit ?_
      refine gk_block_hit ?_
      refine gk_then (hK9 _ _ ?_)
      refine gc_seq fun K28 hK28 => ?_
      obtain rfl : m = k := by omega
      rw [chS_end]
      refine gc_region ?_
      refine g_v (.free rfl) rfl rfl (qt_move rfl rfl) ?_
      refine g_op (.free rfl) fun K30 hK30 => ?_
      refine go_callCI rfl rfl rfl Try.func29 rfl (by decide) rfl (fun w M => impl_PreorderCategory w _ _ (mem_rdU (n := 1) M rfl)) ?_
      intro ca29 cb29 cc29 cd29 ce29 cf29 cg29 ch29 cu29
      refine hK30 _ _ ?_
      refine g_v (.free rfl) rfl rfl (qt_extract rfl rfl rfl) ?_
      refine g_v (.free rfl) rfl rfl (qt_extract rfl rfl rfl) ?_
      refine g_op (.free rfl) fun K31 hK31 => ?_
      refine go_storeS (n := 0) rfl rfl rfl rfl (by kernel_rfl) rfl rfl rfl ?_
      refine hK31 _ _ ?_
      refine g_v (.free rfl) rfl rfl (qt_assign rfl rfl) ?_
      refine g_nil ?_
      refine gk_then (hK28 _ _ ?_)
      refine gc_ret ?_
      refine ret_SI (n := 0) rfl rfl rfl Try.underlying25 rfl (by kernel_rfl) rfl (fun w M => ?_)
      rw [chain_t hm]; exact ⟨_, rfl, ownC_star (mem_pick (n := 5) (mem_pick (n := 5) (mem_pick (n := 5) (mem_pick (n := 5) (M) rfl) rfl) rfl) rfl).2, M.1⟩

set_option maxHeartbeats 1000000 in
set_option maxRecDepth 100000 in
theorem implChain_n (w : World) (n : Int) (h : ¬ (0 ≤ n ∧ n ≤ 8)) :
    Calls Try.prog 8 #[.int .i64 n] w (RetCI w (fChainCategory n).1 (fChainCategory n).2) := by
  go_enter Try.func8, Try.ntmps8
  refine gc_enter (N := 41) rfl (look_cons (k := 0) rfl (look_nil _)) ?_
  refine gc_seq fun K1 hK1 => ?_
  refine gc_region ?_
  refine g_op (.free rfl) fun K3 hK3 => ?_
  refine go_alloc (z := (.agg #[.int .i64 0, .slice none 0 0, .slice none 0 0, .slice none 0 0, .slice none 0 0])) (cs := [.int .i64 0, .slice none 0 0, .slice none 0 0, .slice none 0 0, .slice none 0 0]) rfl rfl rfl (fun w => by kernel_rfl) rfl ?_
  intro B2
  refine hK3 _ _ ?_
  refine g_v (.free rfl) rfl rfl (qt_assign rfl rfl) ?_
  refine g_nil ?_
  refine gk_then (hK1 _ _ ?_)
  refine gc_seq fun K4 hK4 => ?_
  refine gc_seq fun K5 hK5 => ?_
  refine gc_region ?_
  refine g_v (.free rfl) rfl rfl (qt_move rfl rfl) ?_
  refine g_q (.free rfl) rfl rfl (qt_call rfl Try.func28 rfl (by decide) rfl (fun w M => isObCount_any w _)) ?_
  refine g_v (.free rfl) rfl rfl (qt_not rfl rfl) ?_
  refine g_nil ?_
  refine gk_then (hK5 _ _ ?_)
  refine gc_cond rfl (fun hc0 => ?_) (fun hc0 => ?_)
  · try simp only [decide_eq_true_eq, decide_eq_false_iff_not, Bool.not_eq_true', Bool.not_eq_false', Bool.not_eq_eq_eq_not, Bool.not_true, Bool.not_false, ne_eq, Decidable.not_not, Classical.not_not] at hc0
    refine gc_seq fun K6 hK6 => ?_
    refine gc_region ?_
    refine g_v (.free rfl) rfl rfl (qt_build rfl rfl bt0_Category) ?_
    refine g_op (.free rfl) fun K7 hK7 => ?_
    refine go_storeS (n := 0) rfl rfl rfl rfl (by kernel_rfl) rfl rfl rfl ?_
    refine hK7 _ _ ?_
    refine g_v (.free rfl) rfl rfl (qt_assign rfl rfl) ?_
    refine g_nil ?_
    refine gk_then (hK6 _ _ ?_)
    refine gc_ret ?_
    refine gk_then_ret ?_
    refine ret_SI (n := 0) rfl rfl rfl Try.underlying25 rfl (by kernel_rfl) rfl (fun w M => ?_)
    rw [chain_f h]; exact ⟨_, rfl, ownC_zero _ _, M.1⟩
  · try simp only [decide_eq_true_eq, decide_eq_false_iff_not, Bool.not_eq_true', Bool.not_eq_false', Bool.not_eq_eq_eq_not, Bool.not_true, Bool.not_false, ne_eq, Decidable.not_not, Classical.not_not] at hc0
    exact absurd hc0 h


theorem spec_ChainCategory (w : World) (n : Int) : Calls Try.prog 7 #[.int .i64 n] w (RetCI w (fChainCategory n).1 (fChainCategory n).2) := by
  by_cases h : 0 ≤ n ∧ n ≤ 8
  · obtain ⟨m, rfl⟩ := Int.eq_ofNat_of_zero_le h.1
    by_cases hf : FitP (posetC (chR m m))
    · exact specChain_t w m (by omega) hf
    · exact specChain_f w m (by omega) hf
  · exact specChain_n w n h
theorem impl_ChainCategory (w : World) (n : Int) : Calls Try.prog 8 #[.int .i64 n] w (RetCI w (fChainCategory n).1 (fChainCategory n).2) := by
  by_cases h : 0 ≤ n ∧ n ≤ 8
  · obtain ⟨m, rfl⟩ := Int.eq_ofNat_of_zero_le h.1
    exact implChain_t w m (by omega)
  · exact implChain_n w n h
theorem bound_ChainCategory (n : Int) : mzC (fChainCategory n).1 ≤ 1152921504606846 := by
  unfold fChainCategory
  split
  · exact bound_PreorderCategory _
  · show mzC cat0 ≤ _; decide

end Go.Proofs.Ytbfenibkbmkcaab
