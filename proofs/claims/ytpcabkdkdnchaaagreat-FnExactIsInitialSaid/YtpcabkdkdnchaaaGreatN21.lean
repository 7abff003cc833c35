import Derived.Test.YtpcabkdkdnchaaaGreatN20
import Derived.Test.YtpcabkdkdnchaaaGreatN17
import Derived.Test.YtpcabkdkdnchaaaGreatN15
import Derived.Test.YtpcabkdkdnchaaaGreatN18
import Derived.Test.YtpcabkdkdnchaaaGreatN3
import Derived.Deep.RegionHeld3
import Derived.Deep.AppendLies
import Derived.StillTailTactics
import Derived.Test.YtpcabkdkdnchaaaGreatN1
import Derived.Maps.AppendAt
import Derived.Test.YtpcabkdkdnchaaaGreatN9
set_option linter.unusedSimpArgs false
set_option linter.unusedVariables false
set_option linter.unusedSectionVars false
namespace Go.Proofs.YtpcabkdkdnchaaaGreat
open Go.RowKit
def chC (n i l : Nat) : List Int := tabTo (fun j => if i ≤ j ∧ j < l then 1 else 0) n
def chR (n k : Nat) : List (List Int) := rowsTo (fun i => chC n i n) k
theorem chC_len (n i l : Nat) : (chC n i l).length = n := tabTo_len _ _
theorem chR_len (n k : Nat) : (chR n k).length = k := rowsTo_len _ _
theorem chC_zero (n i : Nat) : List.replicate n 0 = chC n i i := by
  refine List.ext_getElem (by simp [chC, tabTo]) fun j h1 h2 => ?_
  simp only [chC, tabTo, List.getElem_replicate, List.getElem_map, List.getElem_range]
  rw [if_neg (by omega)]
theorem chC_set {n i l : Nat} (h : l < n) (hi : i ≤ l) : (chC n i l).set ((l : Int)).toNat 1 = chC n i (l + 1) := by
  refine List.ext_getElem (by simp [chC, tabTo]) fun j h1 h2 => ?_
  simp only [chC, tabTo, List.getElem_set, List.getElem_map, List.getElem_range, Int.toNat_natCast]
  by_cases e : l = j
  · subst e; rw [if_pos rfl, if_pos (by omega)]
  · rw [if_neg e]
    by_cases hj : i ≤ j ∧ j < l
    · rw [if_pos hj, if_pos (by omega)]
    · rw [if_neg hj, if_neg (by omega)]
theorem chR_at {n i j : Nat} (hi : i < n) (hj : j < n) : at0 (row2 (chR n n) (i : Int)) (j : Int) = if i ≤ j then 1 else 0 := by
  rw [show row2 (chR n n) (i : Int) = chC n i n from rowsTo_at _ hi, show at0 (chC n i n) (j : Int) = _ from tabTo_at _ hj]
  by_cases h : i ≤ j
  · rw [if_pos h, if_pos ⟨h, hj⟩]
  · rw [if_neg h, if_neg (by omega)]
theorem chR_pre (n : Nat) : PreP (chR n n) := by
  have hl := chR_len n n
  refine ⟨fun i hi => ⟨?_, allP_to fun j hj => ?_⟩, fun i hi => ⟨?_, fun j hj m hm h1 h2 => ?_⟩⟩
  · rw [hl] at hi ⊢; rw [show row2 (chR n n) (i : Int) = chC n i n from rowsTo_at _ hi, chC_len]
  · rw [hl] at hi
    rw [show row2 (chR n n) (i : Int) = chC n i n from rowsTo_at _ hi, chC_len] at hj
    rw [chR_at hi hj]; split <;> omega
  · rw [hl] at hi; rw [chR_at hi hi, if_pos (Nat.le_refl _)]
  · rw [hl] at hi hj hm
    rw [chR_at hi hj] at h1
    rw [chR_at hj hm] at h2
    rw [chR_at hi hm]
    by_cases h3 : i ≤ j
    · by_cases h4 : j ≤ m
      · rw [if_pos (Nat.le_trans h3 h4)]
      · rw [if_neg h4] at h2; omega
    · rw [if_neg h3] at h1; omega
noncomputable def fChainCategory (n : Int) : Cat × Int := if 0 ≤ n ∧ n ≤ 8 then fPreorderCategory (chR n.toNat n.toNat) else (cat0, 2)
theorem chain_f {n : Int} (h : ¬ (0 ≤ n ∧ n ≤ 8)) : fChainCategory n = (cat0, 2) := if_neg h
theorem chain_t {m : Nat} (h : m ≤ 8) : fChainCategory (m : Int) = fPreorderCategory (chR m m) := by
  unfold fChainCategory; rw [if_pos (by omega)]; simp
theorem chain_pt {m : Nat} (h : m ≤ 8) (hf : FitP (posetC (chR m m))) : fChainCategory (m : Int) = (posetC (chR m m), 0) := by rw [chain_t h, pre_t (bP_t (chR_pre m)) (by rw [chR_len]; exact h) hf]
def chS (n k : Nat) (cur : List Int) : List (List Int) := (List.range n).map fun a => if a < k then chC n a n else if a = k then cur else []
theorem chS_len (n k : Nat) (cur : List Int) : (chS n k cur).length = n := by simp [chS]
theorem chS_zero (n : Nat) : List.replicate n [] = chS n 0 [] := by
  refine List.ext_getElem (by simp [chS]) fun j h1 h2 => ?_
  simp only [chS, List.getElem_replicate, List.getElem_map, List.getElem_range]
  rw [if_neg (by omega)]; split <;> rfl
theorem chS_set {n k : Nat} (hk : k < n) (cur c : List Int) : (chS n k cur).set ((k : Int)).toNat c = chS n k c := by
  refine List.ext_getElem (by simp [chS]) fun j h1 h2 => ?_
  simp only [chS, List.getElem_set, List.getElem_map, List.getElem_range, Int.toNat_natCast]
  by_cases e : k = j
  · subst e; rw [if_pos rfl, if_neg (by omega), if_pos rfl]
  · rw [if_neg e]
    by_cases hj : j < k
    · rw [if_pos hj, if_pos hj]
    · rw [if_neg hj, if_neg hj, if_neg (fun h => e h.symm), if_neg (fun h => e h.symm)]
theorem chS_row {n k : Nat} (hk : k < n) (cur : List Int) : row2 (chS n k cur) (k : Int) = cur := by
  simp [row2, chS, List.getD_eq_getElem?_getD, List.getElem?_eq_getElem, hk]
theorem chS_next {n k : Nat} : chS n k (chC n k n) = chS n (k + 1) [] := by
  refine List.ext_getElem (by simp [chS]) fun j h1 h2 => ?_
  simp only [chS, List.getElem_map, List.getElem_range]
  by_cases hj : j < k
  · rw [if_pos hj, if_pos (by omega)]
  · rw [if_neg hj]
    by_cases e : j = k
    · rw [if_pos e, if_pos (by omega), e]
    · rw [if_neg e, if_neg (by omega)]; split <;> rfl
theorem chS_end (n : Nat) : chS n n [] = chR n n := List.map_congr_left fun j hj => if_pos (List.mem_range.1 hj)
set_option maxHeartbeats 1000000 in
set_option maxRecDepth 100000 in
theorem implChain_t (w : World) (m : Nat) (hm : m ≤ 8) :
    Calls Tryz.prog 125 #[.int .i64 ((m : Int))] w (RetCI w (fChainCategory (m : Int)).1 (fChainCategory (m : Int)).2) := by
  have hr0 := chS_len m 0 []
  go_enter Tryz.func125, Tryz.ntmps125
  refine gc_enter (N := 41) rfl (look_cons (k := 0) rfl (look_nil _)) ?_
  refine gc_seq fun K1 hK1 => ?_
  refine gc_region ?_
  refine g_op (.free rfl) fun K3 hK3 => ?_
  refine go_alloc (z := (.agg #[.int .i64 0, .slice none 0 0, .slice none 0 0, .slice none 0 0, .slice none 0 0])) (cs := [.int .i64 0, .slice none 0 0, .slice none 0 0, .slice none 0 0, .slice none 0 0]) rfl rfl rfl (fun w => by kernel_rfl) rfl ?_
  intro B2
  refine hK3 _ _ ?_
  refine g_v (.free rfl) rfl rfl (qt_assign rfl rfl) ?_
  refine g_nil ?_
  refine gk_then (hK1 _ _ ?_)
  refine gc_seq fun K4 hK4 => ?_
  refine gc_seq fun K5 hK5 => ?_
  refine gc_region ?_
  refine g_v (.free rfl) rfl rfl (qt_move rfl rfl) ?_
  refine g_q (.free rfl) rfl rfl (qt_call rfl Tryz.func151 rfl (by decide) rfl (fun w M => isObCount_any w _)) ?_
  refine g_v (.free rfl) rfl rfl (qt_not rfl rfl) ?_
  refine g_nil ?_
  refine gk_then (hK5 _ _ ?_)
  refine gc_cond rfl (fun hc0 => ?_) (fun hc0 => ?_)
  · try simp only [decide_eq_true_eq, decide_eq_false_iff_not, Bool.not_eq_true', Bool.not_eq_false', Bool.not_eq_eq_eq_not, Bool.not_true, Bool.not_false, ne_eq, Decidable.not_not, Classical.not_not] at hc0
    omega
  · try simp only [decide_eq_true_eq, decide_eq_false_iff_not, Bool.not_eq_true', Bool.not_eq_false', Bool.not_eq_eq_eq_not, Bool.not_true, Bool.not_false, ne_eq, Decidable.not_not, Classical.not_not] at hc0
    refine gc_skip ?_
    refine gk_then (hK4 _ _ ?_)
    refine gc_seq fun K6 hK6 => ?_
    refine gc_region ?_
    refine g_v (.free rfl) rfl rfl (qt_move rfl rfl) ?_
    refine g_op (.free rfl) fun K8 hK8 => ?_
    refine go_make2 rfl rfl rfl Tryz.underlying23 rfl rfl (by omega) ?_
    intro B7
    refine hK8 _ _ ?_
    refine g_v (.free rfl) rfl rfl (qt_assign rfl rfl) ?_
    refine g_nil ?_
    refine gk_then (hK6 _ _ ?_)
    refine gc_seq fun K9 hK9 => ?_
    refine gc_seq fun K10 hK10 => ?_
    refine gc_region ?_
    refine g_v (.free rfl) rfl rfl (qt_move rfl rfl) ?_
    refine g_v (.free rfl) rfl rfl (qt_len rfl rfl ulE2 (fun w M => lenV_U (n := 1) rfl M)) ?_
    refine g_v (.free rfl) rfl rfl (qt_move rfl rfl) ?_
    refine g_nil ?_
    refine gk_then (hK10 _ _ ?_)
    refine gc_block ?_
    rw [chS_zero m]
    try simp only [List.nil_append, List.cons_append, List.append_assoc, List.set_cons_succ, List.set_cons_zero]
    refine gc_loop ([(0, _), (2, _), (3, _), (4, _), (9, _), (14, _)] : Env) (fun s : Nat × (List Value) => (fun (k : Nat) (us : List Value) => ([(15, .int .i64 (k : Int))] : Env)) s.1 s.2) (fun s : Nat × (List Value) => (fun (k : Nat) (us : List Value) => ([(1, own2U (.slice (some ⟨B7, 0, none⟩) m m) us (chS m k []))] : List (Nat × Itm))) s.1 s.2) (fun s : Nat × (List Value) => (fun (k : Nat) (us : List Value) => k ≤ m) s.1 s.2) (fun s : Nat × (List Value) => (fun (k : Nat) (us : List Value) => m - k) s.1 s.2) (0, _) (sub_cons rfl (sub_cons rfl (sub_cons rfl (sub_cons rfl (sub_cons rfl (sub_cons rfl (sub_cons rfl sub_nil))))))) rfl (Nat.zero_le _) ?_
    rintro ⟨k, us⟩ hinv KL11 hKL11
    simp only [updL, List.foldl_cons, List.foldl_nil, List.set_cons_succ, List.set_cons_zero, List.cons_append, List.nil_append] at hinv hKL11 ⊢
    have hk := hinv
    have hr := chS_len m k []
    refine gc_seq fun K12 hK12 => ?_
    refine gc_region ?_
    refine g_v (.free rfl) rfl rfl (qt_lss rfl rfl rfl) ?_
    refine g_nil ?_
    refine gk_then (hK12 _ _ ?_)
    refine gc_seq fun K13 hK13 => ?_
    refine gc_cond rfl (fun hc1 => ?_) (fun hc1 => ?_)
    · try simp only [decide_eq_true_eq, decide_eq_false_iff_not, Bool.not_eq_true', Bool.not_eq_false', Bool.not_eq_eq_eq_not, Bool.not_true, Bool.not_false, ne_eq, Decidable.not_not, Classical.not_not] at hc1
      refine gc_skip ?_
      refine gk_then (hK13 _ _ ?_)
      refine gc_seq fun K14 hK14 => ?_
      refine gc_block ?_
      refine gc_seq fun K15 hK15 => ?_
      refine gc_region ?_
      refine g_v (.free rfl) rfl rfl (qt_move rfl rfl) ?_
      refine g_v (.free rfl) rfl rfl (qt_assign rfl rfl) ?_
      refine g_nil ?_
      refine gk_then (hK15 _ _ ?_)
      refine gc_seq fun K16 hK16 => ?_
      refine gc_region ?_
      refine g_v (.free rfl) rfl rfl (qt_move rfl rfl) ?_
      refine g_v (.free rfl) rfl rfl (qt_move rfl rfl) ?_
      refine g_v (.free rfl) rfl rfl (qt_move rfl rfl) ?_
      refine g_op (.free rfl) fun K18 hK18 => ?_
      refine go_make1 rfl rfl rfl Tryz.underlying22 rfl rfl (by omega) ?_
      intro B17
      refine hK18 _ _ ?_
      refine g_v (.free rfl) rfl rfl (qt_index rfl rfl rfl ulE2 szE2 (fun w M => lenA_U (n := 1) rfl M) (by omega) (by omega)) ?_
      refine g_op (.free rfl) fun K19 hK19 => ?_
      refine go_storeRow (n := 1) (m := 2) (m' := 1) rfl rfl rfl rfl (by kernel_rfl) rfl rfl rfl (by omega) (by omega) ?_
      refine hK19 _ _ ?_
      refine g_nil ?_
      refine gk_then (hK16 _ _ ?_)
      refine gc_seq fun K20 hK20 => ?_
      refine gc_region ?_
      refine g_v (.free rfl) rfl rfl (qt_move rfl rfl) ?_
      refine g_v (.free rfl) rfl rfl (qt_assign rfl rfl) ?_
      refine g_nil ?_
      refine gk_then (hK20 _ _ ?_)
      refine gc_block ?_
      rw [chS_set (by omega), chC_zero m k]
      try simp only [List.nil_append, List.cons_append, List.append_assoc, List.set_cons_succ, List.set_cons_zero]
      refine gc_loop ([(0, _), (2, _), (3, _), (4, _), (5, _), (9, _), (14, _), (15, _), (16, _)] : Env) (fun s : Nat × (List Value) => (fun (l : Nat) (vs : List Value) => ([(6, .int .i64 (l : Int))] : Env)) s.1 s.2) (fun s : Nat × (List Value) => (fun (l : Nat) (vs : List Value) => ([(1, own2U (.slice (some ⟨B7, 0, none⟩) m m) vs (chS m k (chC m k l)))] : List (Nat × Itm))) s.1 s.2) (fun s : Nat × (List Value) => (fun (l : Nat) (vs : List Value) => k ≤ l ∧ l ≤ m) s.1 s.2) (fun s : Nat × (List Value) => (fun (l : Nat) (vs : List Value) => m - l) s.1 s.2) (k, _) (sub_cons rfl (sub_cons rfl (sub_cons rfl (sub_cons rfl (sub_cons rfl (sub_cons rfl (sub_cons rfl (sub_cons rfl (sub_cons rfl (sub_cons rfl sub_nil)))))))))) rfl ⟨Nat.le_refl _, by omega⟩ ?_
      rintro ⟨l, vs⟩ hinv KL21 hKL21
      simp only [updL, List.foldl_cons, List.foldl_nil, List.set_cons_succ, List.set_cons_zero, List.cons_append, List.nil_append] at hinv hKL21 ⊢
      obtain ⟨hl0, hl⟩ := hinv
      have hr2 := chS_len m k (chC m k l)
      have hr3 : (row2 (chS m k (chC m k l)) (k : Int)).length = m := by rw [chS_row (by omega), chC_len]
      refine gc_seq fun K22 hK22 => ?_
      refine gc_seq fun K23 hK23 => ?_
      refine gc_region ?_
      refine g_v (.free rfl) rfl rfl (qt_move rfl rfl) ?_
      refine g_v (.free rfl) rfl rfl (qt_move rfl rfl) ?_
      refine g_v (.free rfl) rfl rfl (qt_len rfl rfl ulE2 (fun w M => lenV_U (n := 1) rfl M)) ?_
      refine g_v (.free rfl) rfl rfl (qt_lss rfl rfl rfl) ?_
      refine g_nil ?_
      refine gk_then (hK23 _ _ ?_)
      refine gc_cond rfl (fun hc2 => ?_) (fun hc2 => ?_)
      · try simp only [decide_eq_true_eq, decide_eq_false_iff_not, Bool.not_eq_true', Bool.not_eq_false', Bool.not_eq_eq_eq_not, Bool.not_true, Bool.not_false, ne_eq, Decidable.not_not, Classical.not_not] at hc2
        refine gc_skip ?_
        refine gk_then (hK22 _ _ ?_)
        refine gc_seq fun K24 hK24 => ?_
        refine gc_block ?_
        refine gc_region ?_
        refine g_v (.free rfl) rfl rfl (qt_move rfl rfl) ?_
        refine g_v (.free rfl) rfl rfl (qt_move rfl rfl) ?_
        refine g_v (.free rfl) rfl rfl (qt_index rfl rfl rfl ulE2 szE2 (fun w M => lenA_U (n := 1) rfl M) (by omega) (by omega)) ?_
        refine g_v (.free rfl) rfl rfl (qt_loadU (n := 1) rfl rfl Tryz.underlying22 rfl rfl (by omega) (by omega)) ?_
        refine g_v (.free rfl) rfl rfl (qt_move rfl rfl) ?_
        refine g_v (.free rfl) rfl rfl (qt_index rfl rfl rfl ulE1 szE1 (fun w M => lenA_row (n := 1) rfl (by omega) (by omega) M) (by omega) (by omega)) ?_
        refine g_op (.free rfl) fun K25 hK25 => ?_
        refine go_storeU (n := 1) rfl rfl rfl rfl (by kernel_rfl) rfl (by omega) (by omega) (by omega) (by omega) ?_
        refine hK25 _ _ ?_
        refine g_nil ?_
        refine gk_block ?_
        refine gk_then (hK24 _ _ ?_)
        refine gc_region ?_
        refine g_v (.free rfl) rfl rfl (qt_move rfl rfl) ?_
        refine g_v (.free rfl) rfl rfl (qt_add rfl rfl rfl (by omega)) ?_
        refine g_v (.free rfl) rfl rfl (qt_assign rfl rfl) ?_
        refine g_nil ?_
        rw [chS_row (by omega), chC_set (by omega) hl0, chS_set (by omega)]
        refine gk_then (gk_take 3 ?_)
        refine gk_sub ?hs_26 (hKL21 (l + 1, _) ?hi_26 ?hm_26)
        case hs_26 => exact (sub_cons rfl (sub_cons rfl (sub_cons rfl (sub_cons rfl (sub_cons rfl (sub_cons rfl (sub_cons rfl (sub_cons rfl (sub_cons rfl (sub_cons rfl sub_nil))))))))))
        case hi_26 => omega
        case hm_26 => omega
      · try simp only [decide_eq_true_eq, decide_eq_false_iff_not, Bool.not_eq_true', Bool.not_eq_false', Bool.not_eq_eq_eq_not, Bool.not_true, Bool.not_false, ne_eq, Decidable.not_not, Classical.not_not] at hc2
        refine gc_exit ?_
        refine gk_then_exit ?_
        refine gk_then_exit ?_
        refine gk_block_hit ?_
        refine gk_block ?_
        refine gk_then (hK14 _ _ ?_)
        refine gc_region ?_
        refine g_v (.free rfl) rfl rfl (qt_add rfl rfl rfl (by omega)) ?_
        refine g_v (.free rfl) rfl rfl (qt_move rfl rfl) ?_
        refine g_nil ?_
        obtain rfl : m = l := by omega
        rw [chS_next]
        refine gk_then (gk_take 2 ?_)
        refine gk_sub ?hs_27 (hKL11 (k + 1, _) ?hi_27 ?hm_27)
        case hs_27 => exact (sub_cons rfl (sub_cons rfl (sub_cons rfl (sub_cons rfl (sub_cons rfl (sub_cons rfl (sub_cons rfl sub_nil)))))))
        case hi_27 => omega
        case hm_27 => omega
    · try simp only [decide_eq_true_eq, decide_eq_false_iff_not, Bool.not_eq_true', Bool.not_eq_false', Bool.not_eq_eq_eq_not, Bool.not_true, Bool.not_false, ne_eq, Decidable.not_not, Classical.not_not] at hc1
      refine gc_exit ?_
      refine gk_then_exit ?_
      refine gk_then_exit ?_
      refine gk_block_hit ?_
      refine gk_then (hK9 _ _ ?_)
      refine gc_seq fun K28 hK28 => ?_
      obtain rfl : m = k := by omega
      rw [chS_end]
      refine gc_region ?_
      refine g_v (.free rfl) rfl rfl (qt_move rfl rfl) ?_
      refine g_op (.free rfl) fun K30 hK30 => ?_
      refine go_callCI rfl rfl rfl Tryz.func152 rfl (by decide) rfl (fun w M => impl_PreorderCategory w _ _ (mem_rdU (n := 1) M rfl)) ?_
      intro ca29 cb29 cc29 cd29 ce29 cf29 cg29 ch29 cu29
      refine hK30 _ _ ?_
      refine g_v (.free rfl) rfl rfl (qt_extract rfl rfl rfl) ?_
      refine g_v (.free rfl) rfl rfl (qt_extract rfl rfl rfl) ?_
      refine g_op (.free rfl) fun K31 hK31 => ?_
      refine go_storeS (n := 0) rfl rfl rfl rfl (by kernel_rfl) rfl rfl rfl ?_
      refine hK31 _ _ ?_
      refine g_v (.free rfl) rfl rfl (qt_assign rfl rfl) ?_
      refine g_nil ?_
      refine gk_then (hK28 _ _ ?_)
      refine gc_ret ?_
      refine ret_SI (n := 0) rfl rfl rfl Tryz.underlying29 rfl (by kernel_rfl) rfl (fun w M => ?_)
      rw [chain_t hm]; exact ⟨_, rfl, ownC_star (mem_pick (n := 5) (mem_pick (n := 5) (mem_pick (n := 5) (mem_pick (n := 5) (M) rfl) rfl) rfl) rfl).2, M.1⟩
set_option maxHeartbeats 1000000 in
set_option maxRecDepth 100000 in
theorem implChain_n (w : World) (n : Int) (h : ¬ (0 ≤ n ∧ n ≤ 8)) :
    Calls Tryz.prog 125 #[.int .i64 n] w (RetCI w (fChainCategory n).1 (fChainCategory n).2) := by
  go_enter Tryz.func125, Tryz.ntmps125
  refine gc_enter (N := 41) rfl (look_cons (k := 0) rfl (look_nil _)) ?_
  refine gc_seq fun K1 hK1 => ?_
  refine gc_region ?_
  refine g_op (.free rfl) fun K3 hK3 => ?_
  refine go_alloc (z := (.agg #[.int .i64 0, .slice none 0 0, .slice none 0 0, .slice none 0 0, .slice none 0 0])) (cs := [.int .i64 0, .slice none 0 0, .slice none 0 0, .slice none 0 0, .slice none 0 0]) rfl rfl rfl (fun w => by kernel_rfl) rfl ?_
  intro B2
  refine hK3 _ _ ?_
  refine g_v (.free rfl) rfl rfl (qt_assign rfl rfl) ?_
  refine g_nil ?_
  refine gk_then (hK1 _ _ ?_)
  refine gc_seq fun K4 hK4 => ?_
  refine gc_seq fun K5 hK5 => ?_
  refine gc_region ?_
  refine g_v (.free rfl) rfl rfl (qt_move rfl rfl) ?_
  refine g_q (.free rfl) rfl rfl (qt_call rfl Tryz.func151 rfl (by decide) rfl (fun w M => isObCount_any w _)) ?_
  refine g_v (.free rfl) rfl rfl (qt_not rfl rfl) ?_
  refine g_nil ?_
  refine gk_then (hK5 _ _ ?_)
  refine gc_cond rfl (fun hc0 => ?_) (fun hc0 => ?_)
  · try simp only [decide_eq_true_eq, decide_eq_false_iff_not, Bool.not_eq_true', Bool.not_eq_false', Bool.not_eq_eq_eq_not, Bool.not_true, Bool.not_false, ne_eq, Decidable.not_not, Classical.not_not] at hc0
    refine gc_seq fun K6 hK6 => ?_
    refine gc_region ?_
    refine g_v (.free rfl) rfl rfl (qt_build rfl rfl bt0_Category) ?_
    refine g_op (.free rfl) fun K7 hK7 => ?_
    refine go_storeS (n := 0) rfl rfl rfl rfl (by kernel_rfl) rfl rfl rfl ?_
    refine hK7 _ _ ?_
    refine g_v (.free rfl) rfl rfl (qt_assign rfl rfl) ?_
    refine g_nil ?_
    refine gk_then (hK6 _ _ ?_)
    refine gc_ret ?_
    refine gk_then_ret ?_
    refine ret_SI (n := 0) rfl rfl rfl Tryz.underlying29 rfl (by kernel_rfl) rfl (fun w M => ?_)
    rw [chain_f h]; exact ⟨_, rfl, ownC_zero _ _, M.1⟩
  · try simp only [decide_eq_true_eq, decide_eq_false_iff_not, Bool.not_eq_true', Bool.not_eq_false', Bool.not_eq_eq_eq_not, Bool.not_true, Bool.not_false, ne_eq, Decidable.not_not, Classical.not_not] at hc0
    exact absurd hc0 h
theorem impl_ChainCategory (w : World) (n : Int) : Calls Tryz.prog 125 #[.int .i64 n] w (RetCI w (fChainCategory n).1 (fChainCategory n).2) := by
  by_cases h : 0 ≤ n ∧ n ≤ 8
  · obtain ⟨m, rfl⟩ := Int.eq_ofNat_of_zero_le h.1
    exact implChain_t w m (by omega)
  · exact implChain_n w n h
end Go.Proofs.YtpcabkdkdnchaaaGreat
set_option linter.unusedSimpArgs false
set_option linter.unusedVariables false
set_option linter.unusedSectionVars false
namespace Go.Proofs.YtpcabkdkdnchaaaGreat
open Go.RowKit
def conL (y : Int) (n : Nat) : List Int := List.replicate n y
theorem conL_len (y : Int) (n : Nat) : (conL y n).length = n := List.length_replicate
theorem conL_succ (y : Int) (n : Nat) : conL y n ++ [y] = conL y (n + 1) := (List.replicate_succ' ..).symm
noncomputable def constF (c d : Cat) (y : Int) : Fct := ⟨c, d, conL y c.ob.toNat, conL (at0 d.e y) c.s.length⟩
set_option maxHeartbeats 1000000 in
set_option maxRecDepth 100000 in
theorem specConst_any (w : World) (v : Value) (c : Cat) (u : Value) (d : Cat) (y : Int) (h : RdC w v c) (e : RdC w u d) (hS : ShapeP c) (gS : ShapeP d) (hy : 0 ≤ y ∧ y < d.ob) :
    Calls Tryz.prog 90 #[v, u, .int .i64 y] w (RetFn w (constF c d y)) := by
  have h0 := h
  obtain ⟨va, vb, vc, vd, ve, vf, vg, vh, rfl, h1, h2, h3, h4, _⟩ := h.lists
  have e0 := e
  obtain ⟨ua, ub, uc, ud, ue, uf, ug, uh, rfl, e1, e2, e3, e4, _⟩ := e.lists
  have hob0 := hS.ob0; have hob8 := hS.ob8; have hn40 := hS.n40; have gel := gS.el; have gob8 := gS.ob8
  go_enter Tryz.func90, Tryz.ntmps90
  refine gc_enter (N := 43) rfl (look_cons (k := 0) rfl (look_cons (k := 1) rfl (look_cons (k := 2) rfl (look_nil _)))) ?_
  refine gc_seq fun K1 hK1 => ?_
  refine gc_region ?_
  refine g_op (.free rfl) fun K3 hK3 => ?_
  refine go_box rfl rfl rfl rfl rfl ?_
  intro B2
  refine hK3 _ _ ?_
  refine g_op (.free rfl) fun K5 hK5 => ?_
  refine go_box rfl rfl rfl rfl rfl ?_
  intro B4
  refine hK5 _ _ ?_
  refine g_op (.free rfl) fun K7 hK7 => ?_
  refine go_alloc (z := (.agg #[.int .i64 0, .slice none 0 0, .slice none 0 0, .slice none 0 0, .slice none 0 0, .int .i64 0, .slice none 0 0, .slice none 0 0, .slice none 0 0, .slice none 0 0, .slice none 0 0, .slice none 0 0])) (cs := [.int .i64 0, .slice none 0 0, .slice none 0 0, .slice none 0 0, .slice none 0 0, .int .i64 0, .slice none 0 0, .slice none 0 0, .slice none 0 0, .slice none 0 0, .slice none 0 0, .slice none 0 0]) rfl rfl rfl (fun w => by kernel_rfl) rfl ?_
  intro B6
  refine hK7 _ _ ?_
  refine g_nil ?_
  refine gk_then (hK1 _ _ ?_)
  refine gc_seq fun K8 hK8 => ?_
  refine gc_region ?_
  refine g_op (.free rfl) fun K10 hK10 => ?_
  refine go_slice0 rfl rfl rfl Tryz.underlying22 ?_
  intro B9
  refine hK10 _ _ ?_
  refine g_op (.free rfl) fun K12 hK12 => ?_
  refine go_slice0 rfl rfl rfl Tryz.underlying22 ?_
  intro B11
  refine hK12 _ _ ?_
  refine g_v (.free rfl) rfl rfl (qt_assign rfl rfl) ?_
  refine g_v (.free rfl) rfl rfl (qt_assign rfl rfl) ?_
  refine g_nil ?_
  refine gk_then (hK8 _ _ ?_)
  refine gc_seq fun K13 hK13 => ?_
  refine gc_seq fun K14 hK14 => ?_
  refine gc_region ?_
  refine g_v (.free rfl) rfl rfl (qt_assign rfl rfl) ?_
  refine g_nil ?_
  refine gk_then (hK14 _ _ ?_)
  refine gc_block ?_
  try simp only [List.nil_append, List.cons_append, List.append_assoc, List.set_cons_succ, List.set_cons_zero]
  refine gc_loop ([(0, _), (1, _), (2, _), (3, _), (4, _), (6, _), (8, _)] : Env) (fun s : Nat × (Option Addr) × Nat => (fun (k : Nat) (a : Option Addr) (q : Nat) => ([(7, .slice a (conL y k).length q), (9, .int .i64 (k : Int))] : Env)) s.1 s.2.1 s.2.2) (fun s : Nat × (Option Addr) × Nat => (fun (k : Nat) (a : Option Addr) (q : Nat) => ([(3, own1I (.slice a (conL y k).length q) (conL y k))] : List (Nat × Itm))) s.1 s.2.1 s.2.2) (fun s : Nat × (Option Addr) × Nat => (fun (k : Nat) (a : Option Addr) (q : Nat) => k ≤ c.ob.toNat) s.1 s.2.1 s.2.2) (fun s : Nat × (Option Addr) × Nat => (fun (k : Nat) (a : Option Addr) (q : Nat) => c.ob.toNat - k) s.1 s.2.1 s.2.2) (0, _, _) (sub_cons rfl (sub_cons rfl (sub_cons rfl (sub_cons rfl (sub_cons rfl (sub_cons rfl (sub_cons rfl (sub_cons rfl (sub_cons rfl sub_nil))))))))) rfl (Nat.zero_le _) ?_
  rintro ⟨k, a, q⟩ hinv KL15 hKL15
  simp only [updL, List.foldl_cons, List.foldl_nil, List.set_cons_succ, List.set_cons_zero, List.cons_append, List.nil_append] at hinv hKL15 ⊢
  have hk := hinv
  have hl := conL_len y k
  refine gc_seq fun K16 hK16 => ?_
  refine gc_seq fun K17 hK17 => ?_
  refine gc_region ?_
  refine g_v (.free rfl) rfl rfl (qt_move rfl rfl) ?_
  refine g_v (.free rfl) rfl rfl (qt_field (z := 0) (off := 0) rfl rfl Tryz.underlying29 rfl (by kernel_rfl) rfl) ?_
  refine g_v (.free rfl) rfl rfl (qt_loadB (n := 0) rfl rfl Tryz.underlying2 rfl rfl rfl) ?_
  refine g_v (.free rfl) rfl rfl (qt_lss rfl rfl rfl) ?_
  refine g_nil ?_
  refine gk_then (hK17 _ _ ?_)
  refine gc_cond rfl (fun hc0 => ?_) (fun hc0 => ?_)
  · try simp only [decide_eq_true_eq, decide_eq_false_iff_not, Bool.not_eq_true', Bool.not_eq_false', Bool.not_eq_eq_eq_not, Bool.not_true, Bool.not_false, ne_eq, Decidable.not_not, Classical.not_not] at hc0
    refine gc_skip ?_
    refine gk_then (hK16 _ _ ?_)
    refine gc_seq fun K18 hK18 => ?_
    refine gc_block ?_
    refine gc_region ?_
    refine g_v (.free rfl) rfl rfl (qt_move rfl rfl) ?_
    refine g_v (.free rfl) rfl rfl (qt_move rfl rfl) ?_
    refine g_op (.free rfl) fun K20 hK20 => ?_
    refine go_slice1 rfl rfl rfl rfl Tryz.underlying22 ?_
    intro B19
    refine hK20 _ _ ?_
    refine g_op (.free rfl) fun K22 hK22 => ?_
    refine go_append (n := 3) (m := 5) rfl rfl rfl Tryz.underlying22 rfl rfl rfl rfl (by omega) ?_
    intro va21 vc21
    refine hK22 _ _ ?_
    refine g_v (.free rfl) rfl rfl (qt_assign rfl rfl) ?_
    refine g_nil ?_
    refine gk_block ?_
    refine gk_then (hK18 _ _ ?_)
    refine gc_region ?_
    refine g_v (.free rfl) rfl rfl (qt_move rfl rfl) ?_
    refine g_v (.free rfl) rfl rfl (qt_add rfl rfl rfl (by omega)) ?_
    refine g_v (.free rfl) rfl rfl (qt_assign rfl rfl) ?_
    refine g_nil ?_
    simp only [conL_succ]
    refine gk_then (gk_take 5 ?_)
    refine gk_sub ?hs_23 (hKL15 (k + 1, _, _) ?hi_23 ?hm_23)
    case hs_23 => exact (sub_cons rfl (sub_cons rfl (sub_cons rfl (sub_cons rfl (sub_cons rfl (sub_cons rfl (sub_cons rfl (sub_cons rfl (sub_cons rfl sub_nil)))))))))
    case hi_23 => omega
    case hm_23 => omega
  · try simp only [decide_eq_true_eq, decide_eq_false_iff_not, Bool.not_eq_true', Bool.not_eq_false', Bool.not_eq_eq_eq_not, Bool.not_true, Bool.not_false, ne_eq, Decidable.not_not, Classical.not_not] at hc0
    refine gc_exit ?_
    refine gk_then_exit ?_
    refine gk_then_exit ?_
    refine gk_block_hit ?_
    refine gk_then (hK13 _ _ ?_)
    refine gc_seq fun K24 hK24 => ?_
    refine gc_seq fun K25 hK25 => ?_
    obtain rfl : k = c.ob.toNat := by omega
    refine gc_region ?_
    refine g_v (.free rfl) rfl rfl (qt_assign rfl rfl) ?_
    refine g_nil ?_
    refine gk_then (hK25 _ _ ?_)
    refine gc_block ?_
    try simp only [List.nil_append, List.cons_append, List.append_assoc, List.set_cons_succ, List.set_cons_zero]
    refine gc_loop ([(0, _), (1, _), (2, _), (3, _), (4, _), (6, _), (7, _), (9, _), (16, _)] : Env) (fun s : Nat × (Option Addr) × Nat => (fun (k : Nat) (a : Option Addr) (q : Nat) => ([(8, .slice a (conL (at0 d.e y) k).length q), (10, .int .i64 (k : Int))] : Env)) s.1 s.2.1 s.2.2) (fun s : Nat × (Option Addr) × Nat => (fun (k : Nat) (a : Option Addr) (q : Nat) => ([(4, own1I (.slice a (conL (at0 d.e y) k).length q) (conL (at0 d.e y) k))] : List (Nat × Itm))) s.1 s.2.1 s.2.2) (fun s : Nat × (Option Addr) × Nat => (fun (k : Nat) (a : Option Addr) (q : Nat) => k ≤ c.s.length) s.1 s.2.1 s.2.2) (fun s : Nat × (Option Addr) × Nat => (fun (k : Nat) (a : Option Addr) (q : Nat) => c.s.length - k) s.1 s.2.1 s.2.2) (0, _, _) (sub_cons rfl (sub_cons rfl (sub_cons rfl (sub_cons rfl (sub_cons rfl (sub_cons rfl (sub_cons rfl (sub_cons rfl (sub_cons rfl (sub_cons rfl (sub_cons rfl sub_nil))))))))))) rfl (Nat.zero_le _) ?_
    rintro ⟨k, a, q⟩ hinv KL26 hKL26
    simp only [updL, List.foldl_cons, List.foldl_nil, List.set_cons_succ, List.set_cons_zero, List.cons_append, List.nil_append] at hinv hKL26 ⊢
    have hk := hinv
    have hl := conL_len (at0 d.e y) k
    refine gc_seq fun K27 hK27 => ?_
    refine gc_seq fun K28 hK28 => ?_
    refine gc_region ?_
    refine g_v (.free rfl) rfl rfl (qt_move rfl rfl) ?_
    refine g_v (.free rfl) rfl rfl (qt_field (z := 0) (off := 1) rfl rfl Tryz.underlying29 rfl (by kernel_rfl) rfl) ?_
    refine g_v (.free rfl) rfl rfl (qt_loadB (n := 0) rfl rfl Tryz.underlying22 rfl rfl rfl) ?_
    refine g_v (.free rfl) rfl rfl (qt_len rfl rfl ulE1 (fun w M => lenV_rd h1)) ?_
    refine g_v (.free rfl) rfl rfl (qt_lss rfl rfl rfl) ?_
    refine g_nil ?_
    refine gk_then (hK28 _ _ ?_)
    refine gc_cond rfl (fun hc1 => ?_) (fun hc1 => ?_)
    · try simp only [decide_eq_true_eq, decide_eq_false_iff_not, Bool.not_eq_true', Bool.not_eq_false', Bool.not_eq_eq_eq_not, Bool.not_true, Bool.not_false, ne_eq, Decidable.not_not, Classical.not_not] at hc1
      refine gc_skip ?_
      refine gk_then (hK27 _ _ ?_)
      refine gc_seq fun K29 hK29 => ?_
      refine gc_block ?_
      refine gc_region ?_
      refine g_v (.free rfl) rfl rfl (qt_move rfl rfl) ?_
      refine g_v (.free rfl) rfl rfl (qt_field (z := 0) (off := 3) rfl rfl Tryz.underlying29 rfl (by kernel_rfl) rfl) ?_
      refine g_v (.free rfl) rfl rfl (qt_loadB (n := 1) rfl rfl Tryz.underlying22 rfl rfl rfl) ?_
      refine g_v (.free rfl) rfl rfl (qt_move rfl rfl) ?_
      refine g_v (.free rfl) rfl rfl (qt_index rfl rfl rfl ulE1 szE1 (fun w M => lenA_rd e3) (by omega) (by omega)) ?_
      refine g_v (.free rfl) rfl rfl (qt_load1 rfl rfl Tryz.underlying2 rfl (fun w M => mem_rd M e3) (by omega) (by omega)) ?_
      refine g_op (.free rfl) fun K31 hK31 => ?_
      refine go_slice1 rfl rfl rfl rfl Tryz.underlying22 ?_
      intro B30
      refine hK31 _ _ ?_
      refine g_op (.free rfl) fun K33 hK33 => ?_
      refine go_append (n := 4) (m := 5) rfl rfl rfl Tryz.underlying22 rfl rfl rfl rfl (by omega) ?_
      intro va32 vc32
      refine hK33 _ _ ?_
      refine g_v (.free rfl) rfl rfl (qt_assign rfl rfl) ?_
      refine g_nil ?_
      refine gk_block ?_
      refine gk_then (hK29 _ _ ?_)
      refine gc_region ?_
      refine g_v (.free rfl) rfl rfl (qt_move rfl rfl) ?_
      refine g_v (.free rfl) rfl rfl (qt_add rfl rfl rfl (by omega)) ?_
      refine g_v (.free rfl) rfl rfl (qt_assign rfl rfl) ?_
      refine g_nil ?_
      simp only [conL_succ]
      refine gk_then (gk_take 5 ?_)
      refine gk_sub ?hs_34 (hKL26 (k + 1, _, _) ?hi_34 ?hm_34)
      case hs_34 => exact (sub_cons rfl (sub_cons rfl (sub_cons rfl (sub_cons rfl (sub_cons rfl (sub_cons rfl (sub_cons rfl (sub_cons rfl (sub_cons rfl (sub_cons rfl (sub_cons rfl sub_nil)))))))))))
      case hi_34 => omega
      case hm_34 => omega
    · try simp only [decide_eq_true_eq, decide_eq_false_iff_not, Bool.not_eq_true', Bool.not_eq_false', Bool.not_eq_eq_eq_not, Bool.not_true, Bool.not_false, ne_eq, Decidable.not_not, Classical.not_not] at hc1
      refine gc_exit ?_
      refine gk_then_exit ?_
      refine gk_then_exit ?_
      refine gk_block_hit ?_
      refine gk_then (hK24 _ _ ?_)
      refine gc_seq fun K35 hK35 => ?_
      obtain rfl : k = c.s.length := by omega
      refine gc_region ?_
      refine g_v (.free rfl) rfl rfl (qt_loadS (n := 0) rfl rfl Tryz.underlying29 rfl (by kernel_rfl) rfl) ?_
      refine g_v (.free rfl) rfl rfl (qt_loadS (n := 1) rfl rfl Tryz.underlying29 rfl (by kernel_rfl) rfl) ?_
      refine g_v (.free rfl) rfl rfl (qt_move rfl rfl) ?_
      refine g_v (.free rfl) rfl rfl (qt_move rfl rfl) ?_
      refine g_op (.free rfl) fun K37 hK37 => ?_
      refine go_callFn rfl rfl rfl Tryz.func39 rfl (by decide) rfl (fun w M => specMakeF_any w _ _ (mem_rdC M h0) _ _ (mem_rdC M e0) _ _ _ _ ((mem_own1 (n := 3) M rfl).rd) ((mem_own1 (n := 4) M rfl).rd)) ?_
      intro fx1_36 fk1_36 fx2_36 fk2_36 fx3_36 fk3_36 fx4_36 fk4_36 fx5_36 fk5_36 fx6_36 fk6_36 fx7_36 fk7_36 fx8_36 fk8_36 fx9_36 fk9_36 fx10_36 fk10_36 us36 ut36
      refine hK37 _ _ ?_
      refine g_op (.free rfl) fun K38 hK38 => ?_
      refine go_storeS (n := 2) rfl rfl rfl rfl (by kernel_rfl) rfl rfl rfl ?_
      refine hK38 _ _ ?_
      refine g_nil ?_
      refine gk_then (hK35 _ _ ?_)
      refine gc_ret ?_
      refine ret_S (n := 2) rfl rfl Tryz.underlying31 rfl (by kernel_rfl) rfl (fun w M => ?_)
      try simp only [List.nil_append, List.cons_append, List.append_assoc, List.set_cons_succ, List.set_cons_zero] at M
      exact retFn_star (F := constF c d y) (mem_block 5 10 (M))
end Go.Proofs.YtpcabkdkdnchaaaGreat
set_option linter.unusedSimpArgs false
set_option linter.unusedVariables false
set_option linter.unusedSectionVars false
namespace Go.Proofs.YtpcabkdkdnchaaaGreat
open Go.RowKit
def oneC : Cat := posetC [[1]]
def pntF (c : Cat) (x : Int) : Fct := ⟨oneC, c, [x], [at0 c.e x]⟩
theorem one_chain : chR 1 1 = [[1]] := by decide
theorem oneC_s : oneC.s.length = 1 := by decide
theorem oneC_fit : FitP (posetC [[1]]) := ⟨by decide, by decide⟩
theorem chain_one : fChainCategory ((1 : Nat) : Int) = (oneC, 0) := by
  have h := chain_pt (m := 1) (by omega) (by rw [one_chain]; exact oneC_fit)
  rw [one_chain] at h; exact h
theorem constF_pnt (c : Cat) (x : Int) : constF oneC c x = pntF c x := by
  have h1 : oneC.ob.toNat = 1 := by decide
  unfold constF pntF
  rw [h1, oneC_s]; rfl
theorem oneC_shape : ShapeP oneC := by
  rw [show oneC = ⟨1, [0], [0], [0], [[0]]⟩ from rfl]
  refine ⟨⟨by decide, by decide, by decide, rfl, rfl, rfl⟩, fun j hj => ?_, fun z hz => ?_, fun z hz => ?_, fun x hx => ?_, fun f g hf hg => ?_⟩
  · obtain rfl : j = 0 := by simpa using hj
    rfl
  · rcases List.mem_singleton.1 hz with rfl; exact ⟨by decide, by decide⟩
  · rcases List.mem_singleton.1 hz with rfl; exact ⟨by decide, by decide⟩
  · obtain rfl : x = 0 := by simpa using hx
    exact ⟨⟨by decide, by decide⟩, rfl, rfl⟩
  · obtain rfl : f = 0 := by simpa using hf
    obtain rfl : g = 0 := by simpa using hg
    exact ⟨fun _ => ⟨⟨by decide, by decide⟩, rfl, rfl⟩, fun h => absurd rfl h⟩
def RetPt (W : World) (c : Cat) (c1 c2 c3 c4 : Value) (x : Int) (e : Ending) (w' : World) : Prop :=
  ∃ (a1 a2 a3 a4 b1 b2 : Option Addr) (k1 k2 k3 k4 q1 q2 : Nat) (p : List Value), e = .returned (.agg #[.int .i64 oneC.ob, .slice a1 oneC.s.length k1, .slice a2 oneC.t.length k2, .slice a3 oneC.e.length k3, .slice a4 oneC.m.length k4, .int .i64 c.ob, c1, c2, c3, c4, .slice b1 [x].length q1, .slice b2 [at0 c.e x].length q2]) ∧ Star [own1I (.slice a1 oneC.s.length k1) oneC.s, own1I (.slice a2 oneC.t.length k2) oneC.t, own1I (.slice a3 oneC.e.length k3) oneC.e, own2U (.slice a4 oneC.m.length k4) p oneC.m, own1I (.slice b1 [x].length q1) [x], own1I (.slice b2 [at0 c.e x].length q2) [at0 c.e x]] w' (fun k => W.heap.size ≤ k) ∧ Below W.heap.size W w'
theorem retPt_star {W w' : World} {c : Cat} {c1 c2 c3 c4 : Value} {x : Int} {a1 a2 a3 a4 b1 b2 : Option Addr} {k1 k2 k3 k4 q1 q2 : Nat} {p : List Value} {is : List Itm} (M : Mem W w' (own1I (.slice a1 oneC.s.length k1) oneC.s :: own1I (.slice a2 oneC.t.length k2) oneC.t :: own1I (.slice a3 oneC.e.length k3) oneC.e :: own2U (.slice a4 oneC.m.length k4) p oneC.m :: own1I (.slice b1 [x].length q1) [x] :: own1I (.slice b2 [at0 c.e x].length q2) [at0 c.e x] :: is)) : RetPt W c c1 c2 c3 c4 x (.returned (.agg #[.int .i64 oneC.ob, .slice a1 oneC.s.length k1, .slice a2 oneC.t.length k2, .slice a3 oneC.e.length k3, .slice a4 oneC.m.length k4, .int .i64 c.ob, c1, c2, c3, c4, .slice b1 [x].length q1, .slice b2 [at0 c.e x].length q2])) w' :=
  ⟨a1, a2, a3, a4, b1, b2, k1, k2, k3, k4, q1, q2, p, rfl, (mem_take 6 M).2, M.1⟩
section
variable {w0 : World} {is : List Itm} {ops : Array Oper} {Q : Exit → Act → World → Prop} {o : Oper} {rest : List Oper} {N : Frm} {e : Env} {v : Value} {d : Nat} {K : Act → World → Prop} {f : FuncId} {fn : Func} {ags : Array Operand} {ts : Array TypeId} {vs : List Value}
theorem go_callPt {c : Cat} {c1 c2 c3 c4 : Value} {x : Int} (hd : o.dst = some d) (hN : Nat.blt d N = true) (hop : o.op = .call { callee := .value (.func f), args := ags, argTypes := ts }) (hfn : Tryz.prog.funcs[f]? = some fn) (hb : fn.body.isNone = false) (hn : (fn.name == "runtime.NumGoroutine") = false) (hargs : evoL e ags.toList = some vs) (hc : ∀ w, Mem w0 w is → Calls Tryz.prog f vs.toArray w (RetPt w c c1 c2 c3 c4 x))
    (hk : ∀ a1 k1 a2 k2 a3 k3 a4 k4 b1 q1 b2 q2 p, GK w0 (is ++ [own1I (.slice a1 oneC.s.length k1) oneC.s, own1I (.slice a2 oneC.t.length k2) oneC.t, own1I (.slice a3 oneC.e.length k3) oneC.e, own2U (.slice a4 oneC.m.length k4) p oneC.m, own1I (.slice b1 [x].length q1) [x], own1I (.slice b2 [at0 c.e x].length q2) [at0 c.e x]]) N K ((d, .agg #[.int .i64 oneC.ob, .slice a1 oneC.s.length k1, .slice a2 oneC.t.length k2, .slice a3 oneC.e.length k3, .slice a4 oneC.m.length k4, .int .i64 c.ob, c1, c2, c3, c4, .slice b1 [x].length q1, .slice b2 [at0 c.e x].length q2]) :: e)) : GO w0 is N o e Q K := by
  intro w a M _F
  refine go_call hd hN _F hop hfn hb hn hargs (hc w M) fun e' w' hR => ?_
  obtain ⟨a1, a2, a3, a4, b1, b2, k1, k2, k3, k4, q1, q2, p, rfl, hs, hbl⟩ := hR
  exact ⟨_, rfl, fun a F => hk a1 k1 a2 k2 a3 k3 a4 k4 b1 q1 b2 q2 p w' a (mem_news M hbl hs) F⟩
end
theorem cm_rde {w : World} {c : Cat} {ob c1 c2 c3 c4 : Value} (h : RdC w (.agg #[ob, c1, c2, c3, c4]) c) : Rd w c3 c.e := by
  obtain ⟨y1, y2, y3, y4, hv, h1, h2, h3, h4⟩ := h
  obtain ⟨_, rfl, rfl, rfl, rfl⟩ := agg5 hv
  exact h3
set_option maxHeartbeats 2000000 in
set_option maxRecDepth 100000 in
theorem pointAt_any (w : World) (c : Cat) (x : Int) (x1 x2 x3 x4 : Option Addr) (n1 n2 n3 n4 : Nat) (hc : RdC w (.agg #[.int .i64 c.ob, .slice x1 c.s.length n1, .slice x2 c.t.length n2, .slice x3 c.e.length n3, .slice x4 c.m.length n4]) c) (hx0 : 0 ≤ x) (hx1 : x < c.e.length) :
    Calls Tryz.prog 93 #[.agg #[.int .i64 c.ob, .slice x1 c.s.length n1, .slice x2 c.t.length n2, .slice x3 c.e.length n3, .slice x4 c.m.length n4], .int .i64 x] w (RetPt w c (.slice x1 c.s.length n1) (.slice x2 c.t.length n2) (.slice x3 c.e.length n3) (.slice x4 c.m.length n4) x) := by
  have he := cm_rde hc
  go_enter Tryz.func93, Tryz.ntmps93
  refine gc_enter (N := 22) rfl (look_cons (k := 0) rfl (look_cons (k := 1) rfl (look_nil _))) ?_
  refine gc_seq fun K1 hK1 => ?_
  refine gc_region ?_
  refine g_op (.free rfl) fun K3 hK3 => ?_
  refine go_box rfl rfl rfl rfl rfl ?_
  intro B2
  refine hK3 _ _ ?_
  refine g_op (.free rfl) fun K5 hK5 => ?_
  refine go_alloc (z := (.agg #[.int .i64 0, .slice none 0 0, .slice none 0 0, .slice none 0 0, .slice none 0 0, .int .i64 0, .slice none 0 0, .slice none 0 0, .slice none 0 0, .slice none 0 0, .slice none 0 0, .slice none 0 0])) (cs := [.int .i64 0, .slice none 0 0, .slice none 0 0, .slice none 0 0, .slice none 0 0, .int .i64 0, .slice none 0 0, .slice none 0 0, .slice none 0 0, .slice none 0 0, .slice none 0 0, .slice none 0 0]) rfl rfl rfl (fun w => by kernel_rfl) rfl ?_
  intro B4
  refine hK5 _ _ ?_
  refine g_nil ?_
  refine gk_then (hK1 _ _ ?_)
  refine gc_seq fun K6 hK6 => ?_
  refine gc_region ?_
  refine g_op (.free rfl) fun K8 hK8 => ?_
  refine go_callCI rfl rfl rfl Tryz.func125 rfl (by decide) rfl (fun w M => impl_ChainCategory w (1)) ?_
  intro ca7 cb7 cc7 cd7 ce7 cf7 cg7 ch7 cu7
  refine hK8 _ _ ?_
  refine g_v (.free rfl) rfl rfl (qt_move rfl rfl) ?_
  refine g_v (.free rfl) rfl rfl (qt_extract rfl rfl rfl) ?_
  refine g_v (.free rfl) rfl rfl (qt_extract rfl rfl rfl) ?_
  refine g_op (.free rfl) fun K10 hK10 => ?_
  refine go_alloc (z := (.agg #[.int .i64 0, .slice none 0 0, .slice none 0 0, .slice none 0 0, .slice none 0 0])) (cs := [.int .i64 0, .slice none 0 0, .slice none 0 0, .slice none 0 0, .slice none 0 0]) rfl rfl rfl (fun w => by kernel_rfl) rfl ?_
  intro B9
  refine hK10 _ _ ?_
  refine g_op (.free rfl) fun K11 hK11 => ?_
  refine go_storeS (n := 6) rfl rfl rfl rfl (by kernel_rfl) rfl rfl rfl ?_
  refine hK11 _ _ ?_
  refine g_v (.free rfl) rfl rfl (qt_assign rfl rfl) ?_
  refine g_nil ?_
  refine gk_then (hK6 _ _ ?_)
  refine gc_seq fun K12 hK12 => ?_
  simp only [show fChainCategory 1 = (oneC, 0) from chain_one]
  try simp only [List.nil_append, List.cons_append, List.append_assoc, List.set_cons_succ, List.set_cons_zero]
  refine ga_start _ (fun w M => mem_erase 1 (M)) ?_
  refine ga_v 0 rfl (by kernel_rfl) (by kernel_rfl) (by kernel_rfl) (.free rfl) rfl rfl (qt_loadS (n := 5) rfl rfl Tryz.underlying29 rfl (by kernel_rfl) rfl) (fun _ _ _ h => h) ?_
  refine ga_v 1 rfl (by kernel_rfl) (by kernel_rfl) (by kernel_rfl) (.free rfl) rfl rfl (qt_loadS (n := 0) rfl rfl Tryz.underlying29 rfl (by kernel_rfl) rfl) (fun _ _ _ h => h) ?_
  refine ga_v 2 rfl (by kernel_rfl) (by kernel_rfl) (by kernel_rfl) (.free rfl) rfl rfl (qt_move rfl rfl) (fun _ _ _ h => h) ?_
  refine ga_v 4 rfl (by kernel_rfl) (by kernel_rfl) (by kernel_rfl) (.free rfl) rfl rfl (qt_field (z := 0) (off := 3) rfl rfl Tryz.underlying29 rfl (by kernel_rfl) rfl) (fun _ _ _ h => h) ?_
  refine ga_v 5 rfl (by kernel_rfl) (by kernel_rfl) (by kernel_rfl) (.free rfl) rfl rfl (qt_loadB (n := 0) rfl rfl Tryz.underlying22 rfl rfl rfl) (fun _ _ _ h => h) ?_
  refine ga_v 6 rfl (by kernel_rfl) (by kernel_rfl) (by kernel_rfl) (.free rfl) rfl rfl (qt_move rfl rfl) (fun _ _ _ h => h) ?_
  refine ga_v 7 rfl (by kernel_rfl) (by kernel_rfl) (by kernel_rfl) (.free rfl) rfl rfl (qt_index rfl rfl rfl ulE1 szE1 (fun w M => lenA_rd he) (by omega) (by omega)) (fun _ _ _ h => h) ?_
  refine ga_v 8 rfl (by kernel_rfl) (by kernel_rfl) (by kernel_rfl) (.free rfl) rfl rfl (qt_load1 rfl rfl Tryz.underlying2 rfl (fun w M => mem_rd M he) (by omega) (by omega)) (fun _ _ _ h => h) ?_
  refine ga_two 3 9 (by kernel_rfl) rfl rfl (.free rfl) (.free rfl) (fun K13 hK13 => ?_) (fun K13 hK13 => ?_)
  · refine go_slice1 rfl rfl rfl rfl Tryz.underlying22 ?_
    intro B14
    refine hK13 _ _ (fun w M => (mem_erase 1 (mem_take 7 M) :)) ?_
    refine ga_op 9 (by kernel_rfl) rfl (.free rfl) fun K17 hK17 => ?_
    refine go_slice1 rfl rfl rfl rfl Tryz.underlying22 ?_
    intro B16
    refine hK17 _ _ (fun w M => (mem_erase 1 (mem_take 7 M) :)) ?_
    refine ga_v 10 rfl (by kernel_rfl) (by kernel_rfl) (by kernel_rfl) (.free rfl) rfl rfl (qt_build rfl rfl bt_Functor) (fun _ _ _ h => h) ?_
    refine ga_op 11 (by kernel_rfl) rfl (.free rfl) fun K18 hK18 => ?_
    refine go_storeS (n := 1) rfl rfl rfl rfl (by kernel_rfl) rfl rfl rfl ?_
    refine hK18 _ _ (fun w M => (mem_erase 1 (mem_take 7 M) :)) ?_
    refine ga_done (by kernel_rfl) ?_
    refine gk_then (hK12 _ _ ?_)
    refine gc_ret ?_
    refine ret_S (n := 1) rfl rfl Tryz.underlying31 rfl (by kernel_rfl) rfl (fun w M => ?_)
    try simp only [List.nil_append, List.cons_append, List.append_assoc, List.set_cons_succ, List.set_cons_zero] at M
    exact retPt_star (mem_block 4 4 (mem_block 7 2 (M)))
  · refine go_slice1 rfl rfl rfl rfl Tryz.underlying22 ?_
    intro B19
    refine hK13 _ _ (fun w M => (mem_erase 1 (mem_take 7 M) :)) ?_
    refine ga_op 3 (by kernel_rfl) rfl (.free rfl) fun K22 hK22 => ?_
    refine go_slice1 rfl rfl rfl rfl Tryz.underlying22 ?_
    intro B21
    refine hK22 _ _ (fun w M => (mem_erase 1 (mem_take 7 M) :)) ?_
    refine ga_v 10 rfl (by kernel_rfl) (by kernel_rfl) (by kernel_rfl) (.free rfl) rfl rfl (qt_build rfl rfl bt_Functor) (fun _ _ _ h => h) ?_
    refine ga_op 11 (by kernel_rfl) rfl (.free rfl) fun K23 hK23 => ?_
    refine go_storeS (n := 1) rfl rfl rfl rfl (by kernel_rfl) rfl rfl rfl ?_
    refine hK23 _ _ (fun w M => (mem_erase 1 (mem_take 7 M) :)) ?_
    refine ga_done (by kernel_rfl) ?_
    refine gk_then (hK12 _ _ ?_)
    refine gc_ret ?_
    refine ret_S (n := 1) rfl rfl Tryz.underlying31 rfl (by kernel_rfl) rfl (fun w M => ?_)
    try simp only [List.nil_append, List.cons_append, List.append_assoc, List.set_cons_succ, List.set_cons_zero] at M
    exact retPt_star (mem_block 4 4 (mem_block 8 1 (mem_block 7 1 (M))))
set_option maxHeartbeats 1000000 in
set_option maxRecDepth 100000 in
theorem specOne_any (w : World) (_u : Unit) :
    Calls Tryz.prog 91 #[] w (RetC w oneC) := by
  go_enter Tryz.func91, Tryz.ntmps91
  refine gc_enter (N := 4) rfl (look_nil _) ?_
  refine gc_seq fun K1 hK1 => ?_
  refine gc_region ?_
  refine g_op (.free rfl) fun K3 hK3 => ?_
  refine go_alloc (z := (.agg #[.int .i64 0, .slice none 0 0, .slice none 0 0, .slice none 0 0, .slice none 0 0])) (cs := [.int .i64 0, .slice none 0 0, .slice none 0 0, .slice none 0 0, .slice none 0 0]) rfl rfl rfl (fun w => by kernel_rfl) rfl ?_
  intro B2
  refine hK3 _ _ ?_
  refine g_nil ?_
  refine gk_then (hK1 _ _ ?_)
  refine gc_seq fun K4 hK4 => ?_
  refine gc_region ?_
  refine g_op (.free rfl) fun K6 hK6 => ?_
  refine go_slice1 rfl rfl rfl rfl Tryz.underlying22 ?_
  intro B5
  refine hK6 _ _ ?_
  refine g_op (.free rfl) fun K8 hK8 => ?_
  refine go_sliceR1 (m := 1) rfl rfl rfl rfl Tryz.underlying23 rfl ?_
  intro B7
  refine hK8 _ _ ?_
  refine g_op (.free rfl) fun K10 hK10 => ?_
  refine go_callC rfl rfl rfl Tryz.func122 rfl (by decide) rfl (fun w M => specPoset_any w _ ([[1]]) (mem_rdU (n := 1) M rfl) (by have := (chR_pre 1).1; rw [one_chain] at this; exact this) (by decide)) ?_
  intro ca9 cb9 cc9 cd9 ce9 cf9 cg9 ch9 cu9
  refine hK10 _ _ ?_
  refine g_op (.free rfl) fun K11 hK11 => ?_
  refine go_storeS (n := 0) rfl rfl rfl rfl (by kernel_rfl) rfl rfl rfl ?_
  refine hK11 _ _ ?_
  refine g_nil ?_
  refine gk_then (hK4 _ _ ?_)
  refine gc_ret ?_
  refine ret_S (n := 0) rfl rfl Tryz.underlying29 rfl (by kernel_rfl) rfl (fun w M => ?_)
  exact ⟨_, rfl, ownC_star (mem_pick (n := 5) (mem_pick (n := 5) (mem_pick (n := 5) (mem_pick (n := 5) (M) rfl) rfl) rfl) rfl).2, M.1⟩
set_option maxHeartbeats 2000000 in
set_option maxRecDepth 100000 in
theorem specPoint_any (w : World) (v : Value) (c : Cat) (x : Int) (h : RdC w v c) (gS : ShapeP c) (hx : 0 ≤ x ∧ x < c.ob) :
    Calls Tryz.prog 56 #[v, .int .i64 x] w (RetFn w (pntF c x)) := by
  have h0 := h
  obtain ⟨va, vb, vc, vd, ve, vf, vg, vh, rfl, h1, h2, h3, h4, _⟩ := h.lists
  go_enter Tryz.func56, Tryz.ntmps56
  refine gc_enter (N := 9) rfl (look_cons (k := 0) rfl (look_cons (k := 1) rfl (look_nil _))) ?_
  refine gc_seq fun K1 hK1 => ?_
  refine gc_region ?_
  refine g_op (.free rfl) fun K3 hK3 => ?_
  refine go_box rfl rfl rfl rfl rfl ?_
  intro B2
  refine hK3 _ _ ?_
  refine g_op (.free rfl) fun K5 hK5 => ?_
  refine go_alloc (z := (.agg #[.int .i64 0, .slice none 0 0, .slice none 0 0, .slice none 0 0, .slice none 0 0, .int .i64 0, .slice none 0 0, .slice none 0 0, .slice none 0 0, .slice none 0 0, .slice none 0 0, .slice none 0 0])) (cs := [.int .i64 0, .slice none 0 0, .slice none 0 0, .slice none 0 0, .slice none 0 0, .int .i64 0, .slice none 0 0, .slice none 0 0, .slice none 0 0, .slice none 0 0, .slice none 0 0, .slice none 0 0]) rfl rfl rfl (fun w => by kernel_rfl) rfl ?_
  intro B4
  refine hK5 _ _ ?_
  refine g_nil ?_
  refine gk_then (hK1 _ _ ?_)
  refine gc_seq fun K6 hK6 => ?_
  try simp only [List.nil_append, List.cons_append, List.append_assoc, List.set_cons_succ, List.set_cons_zero]
  refine ga_start _ (fun w M => mem_erase 1 (M)) ?_
  refine ga_v 1 rfl (by kernel_rfl) (by kernel_rfl) (by kernel_rfl) (.free rfl) rfl rfl (qt_loadS (n := 0) rfl rfl Tryz.underlying29 rfl (by kernel_rfl) rfl) (fun _ _ _ h => h) ?_
  refine ga_v 2 rfl (by kernel_rfl) (by kernel_rfl) (by kernel_rfl) (.free rfl) rfl rfl (qt_move rfl rfl) (fun _ _ _ h => h) ?_
  refine ga_op 0 (by kernel_rfl) rfl (.free rfl) fun K8 hK8 => ?_
  refine go_callC rfl rfl rfl Tryz.func91 rfl (by decide) rfl (fun w M => specOne_any w ()) ?_
  intro ca7 cb7 cc7 cd7 ce7 cf7 cg7 ch7 cu7
  refine hK8 _ _ (fun w M => (mem_erase 1 (mem_take 2 M) :)) ?_
  refine ga_op 3 (by kernel_rfl) rfl (.free rfl) fun K10 hK10 => ?_
  refine go_callFn rfl rfl rfl Tryz.func90 rfl (by decide) rfl (fun w M => specConst_any w _ _ _ _ _ (rdC_mk ((mem_own1 (n := 2) M rfl).rd) ((mem_own1 (n := 3) M rfl).rd) ((mem_own1 (n := 4) M rfl).rd) (mem_rdU (n := 5) M rfl)) (mem_rdC M h0) (oneC_shape) (gS) (hx)) ?_
  intro fx1_9 fk1_9 fx2_9 fk2_9 fx3_9 fk3_9 fx4_9 fk4_9 fx5_9 fk5_9 fx6_9 fk6_9 fx7_9 fk7_9 fx8_9 fk8_9 fx9_9 fk9_9 fx10_9 fk10_9 us9 ut9
  refine hK10 _ _ (fun w M => (mem_erase 1 (mem_take 2 M) :)) ?_
  refine ga_op 4 (by kernel_rfl) rfl (.free rfl) fun K11 hK11 => ?_
  refine go_storeS (n := 1) rfl rfl rfl rfl (by kernel_rfl) rfl rfl rfl ?_
  refine hK11 _ _ (fun w M => (mem_erase 1 (mem_take 2 M) :)) ?_
  refine ga_done (by kernel_rfl) ?_
  refine gk_then (hK6 _ _ ?_)
  refine gc_ret ?_
  refine ret_S (n := 1) rfl rfl Tryz.underlying31 rfl (by kernel_rfl) rfl (fun w M => ?_)
  try simp only [List.nil_append, List.cons_append, List.append_assoc, List.set_cons_succ, List.set_cons_zero] at M
  rw [← constF_pnt]; exact retFn_star (F := constF oneC c x) (mem_block 6 10 (M))
end Go.Proofs.YtpcabkdkdnchaaaGreat
set_option linter.unusedSimpArgs false
set_option linter.unusedVariables false
set_option linter.unusedSectionVars false
namespace Go.Proofs.YtpcabkdkdnchaaaGreat
open Go.RowKit
def pa (q : List Int) : Nat := (q.getD 0 0).toNat
def pb (q : List Int) : Nat := (q.getD 1 0).toNat
end Go.Proofs.YtpcabkdkdnchaaaGreat
set_option linter.unusedSimpArgs false
set_option linter.unusedVariables false
set_option linter.unusedSectionVars false
namespace Go.Proofs.YtpcabkdkdnchaaaGreat
open Go.RowKit
def BothP (p q : List Int) : Prop := PartP p ∧ PartP q ∧ p.length = q.length
instance (p q : List Int) : Decidable (BothP p q) := inferInstanceAs (Decidable (_ ∧ _))
end Go.Proofs.YtpcabkdkdnchaaaGreat
set_option linter.unusedSimpArgs false
set_option linter.unusedVariables false
set_option linter.unusedSectionVars false
namespace Go.Proofs.YtpcabkdkdnchaaaGreat
open Go.RowKit
theorem mem_seenOf (l : List Int) (x : Int) : x ∈ seenOf l ↔ x ∈ l := by
  have h : ∀ (l s : List Int), x ∈ l.foldl (fun s x => if x ∈ s then s else s ++ [x]) s ↔ x ∈ s ∨ x ∈ l := by
    intro l
    induction l with
    | nil => intro s; simp
    | cons a l ih =>
      intro s
      rw [List.foldl_cons, ih, List.mem_cons]
      by_cases ha : a ∈ s
      · rw [if_pos ha]
        constructor
        · rintro (h | h)
          · exact .inl h
          · exact .inr (.inr h)
        · rintro (h | h | h)
          · exact .inl h
          · subst h; exact .inl ha
          · exact .inr h
      · rw [if_neg ha, List.mem_append, List.mem_singleton]
        constructor
        · rintro ((h | h) | h)
          · exact .inl h
          · exact .inr (.inl h)
          · exact .inr (.inr h)
        · rintro (h | h | h)
          · exact .inl (.inl h)
          · exact .inl (.inr h)
          · exact .inr h
  have := h l []
  simpa [seenOf] using this
def lstL (p : List Int) (m : Nat) : List Int := (upTo 0 m).map fun c => (p.idxOf c : Int)
theorem lstL_len (p : List Int) (m : Nat) : (lstL p m).length = m := by simp [lstL, upTo_length]
theorem lstL_snoc (p : List Int) (m : Nat) : lstL p (m + 1) = lstL p m ++ [(p.idxOf (m : Int) : Int)] := by simp [lstL, upTo_succ]
theorem proper_step {p : List Int} (hp : p = clsOf p) {k m : Nat} (hk : k < p.length) (hs : seenOf (p.take k) = upTo 0 m) :
    0 ≤ p.getD k 0 ∧ p.getD k 0 ≤ m ∧ (p.getD k 0 = m → p.idxOf (m : Int) = k) := by
  have h := clsOf_getD hk
  rw [← hp, hs] at h
  have hle := idx_lt (s := upTo 0 m) (x := p.getD k 0)
  rw [upTo_length] at hle
  refine ⟨by omega, by omega, fun he => ?_⟩
  refine idx_hit hk he fun j hj hjm => ?_
  have hin : (m : Int) ∈ p.take k := by
    rw [← hjm, List.getD_eq_getElem?_getD]
    have : p[j]? = some (p[j]'(by omega)) := List.getElem?_eq_getElem (by omega)
    rw [this]
    exact List.mem_take_iff_getElem.2 ⟨j, by omega, rfl⟩
  rw [← mem_seenOf, hs] at hin
  exact not_mem_upTo (.inr (Int.le_refl _)) hin
end Go.Proofs.YtpcabkdkdnchaaaGreat
set_option linter.unusedSimpArgs false
set_option linter.unusedVariables false
set_option linter.unusedSectionVars false
namespace Go.Proofs.YtpcabkdkdnchaaaGreat
open Go.RowKit
def hitS (c : Cat) (q : List Int) (f g : Nat) : Prop := at0 c.t (f : Int) = at0 c.s (at0 q 0) ∧ at0 c.t (at0 q 0) = at0 c.s (g : Int)
instance (c : Cat) (q : List Int) (f g : Nat) : Decidable (hitS c q f g) := by unfold hitS; infer_instance
theorem getD_idx {s : List Int} {x : Int} (h : x ∈ s) : s.getD (s.idxOf x) 0 = x := by
  have hl := List.idxOf_lt_length_iff.2 h
  rw [List.getD_eq_getElem?_getD, List.getElem?_eq_getElem hl]
  simp
theorem idx_eq2 {s : List Int} {x y : Int} (hx : x ∈ s) (hy : y ∈ s) (h : s.idxOf x = s.idxOf y) : x = y := by
  rw [← getD_idx hx, ← getD_idx hy, h]
theorem seen_idx2 {l : List Int} {k : Nat} (hk : k < l.length) : ∀ m, k < m → m ≤ l.length → (seenOf (l.take m)).idxOf (l.getD k 0) = (seenOf (l.take k)).idxOf (l.getD k 0) := by
  intro m
  induction m with
  | zero => intro h; omega
  | succ m ih =>
    intro h1 h2
    rw [take_snoc (by omega), seenOf_snoc]
    by_cases hm : l.getD m 0 ∈ seenOf (l.take m)
    · rw [if_pos hm]
      by_cases he : k = m
      · rw [he]
      · exact ih (by omega) (by omega)
    · rw [if_neg hm]
      by_cases he : k = m
      · subst he
        rw [List.idxOf_append, if_neg hm, List.idxOf_eq_length hm]
        simp
      · have hin : l.getD k 0 ∈ seenOf (l.take m) := by
          rw [mem_seenOf, List.mem_take_iff_getElem]
          exact ⟨k, by omega, by simp [List.getD_eq_getElem?_getD, List.getElem?_eq_getElem hk]⟩
        rw [List.idxOf_append, if_pos hin]
        exact ih (by omega) (by omega)
theorem ker_cls2 (l : List Int) : Ker l (clsOf l) := by
  refine ⟨(clsOf_len l).symm, fun i j hi hj => ?_⟩
  rw [clsOf_getD hi, clsOf_getD hj, ← seen_idx2 hi l.length hi (Nat.le_refl _), ← seen_idx2 hj l.length hj (Nat.le_refl _), List.take_length]
  constructor
  · intro h; rw [h]
  · intro h
    exact idx_eq2 ((mem_seenOf _ _).2 (mem_getD hi)) ((mem_seenOf _ _).2 (mem_getD hj)) (by omega)
def nC (p : List Int) (k : Nat) : Nat := (seenOf (p.take k)).length
theorem nC_le (p : List Int) (k : Nat) : nC p k ≤ k := by
  have h := seenOf_len (p.take k)
  have : (p.take k).length ≤ k := by simp; omega
  exact Nat.le_trans h this
theorem seen_up {p : List Int} (hp : p = clsOf p) : ∀ k, k ≤ p.length → seenOf (p.take k) = upTo 0 (nC p k) := by
  intro k
  induction k with
  | zero => intro _; simp [nC, seenOf, upTo]
  | succ k ih =>
    intro hk
    have h := ih (by omega)
    have hst := proper_step hp (by omega) h
    have hsn := seenOf_snoc (p.take k) (p.getD k 0)
    rw [← take_snoc (by omega)] at hsn
    by_cases hx : p.getD k 0 = nC p k
    · have h2 : seenOf (p.take (k + 1)) = upTo 0 (nC p k + 1) := by
        rw [hsn, if_neg (by rw [h, hx]; exact not_mem_upTo (.inr (Int.le_refl _))), h, hx, ← upTo_succ]
      rw [h2]; congr 1
      show _ = (seenOf (p.take (k + 1))).length
      rw [h2, upTo_length]
    · have h2 : seenOf (p.take (k + 1)) = upTo 0 (nC p k) := by
        rw [hsn, if_pos (by rw [h]; exact mem_upTo hst.1 (by omega)), h]
      rw [h2]; congr 1
      show _ = (seenOf (p.take (k + 1))).length
      rw [h2, upTo_length]
theorem nC_t {p : List Int} (hp : p = clsOf p) {k : Nat} (hk : k < p.length) (hx : p.getD k 0 = nC p k) : nC p (k + 1) = nC p k + 1 ∧ p.idxOf (nC p k : Int) = k := by
  have h := seen_up hp k (by omega)
  have hst := proper_step hp (by omega) h
  have hsn := seenOf_snoc (p.take k) (p.getD k 0)
  rw [← take_snoc (by omega), if_neg (by rw [h, hx]; exact not_mem_upTo (.inr (Int.le_refl _)))] at hsn
  exact ⟨by show (seenOf (p.take (k + 1))).length = _; rw [hsn]; simp [nC], hst.2.2 hx⟩
theorem nC_f {p : List Int} (hp : p = clsOf p) {k : Nat} (hk : k < p.length) (hx : ¬ p.getD k 0 = nC p k) : nC p (k + 1) = nC p k := by
  have h := seen_up hp k (by omega)
  have hst := proper_step hp (by omega) h
  have hsn := seenOf_snoc (p.take k) (p.getD k 0)
  rw [← take_snoc (by omega), if_pos (by rw [h]; exact mem_upTo hst.1 (by omega))] at hsn
  show (seenOf (p.take (k + 1))).length = _; rw [hsn]; rfl
theorem lst_t {p : List Int} (hp : p = clsOf p) {k : Nat} (hk : k < p.length) (hx : at0 p (k : Int) = ((lstL p (nC p k)).length : Int)) : lstL p (nC p k) ++ [(k : Int)] = lstL p (nC p (k + 1)) := by
  rw [lstL_len, at0_nat] at hx
  have h := nC_t hp hk hx
  rw [h.1, lstL_snoc, h.2]
theorem lst_f {p : List Int} (hp : p = clsOf p) {k : Nat} (hk : k < p.length) (hx : ¬ at0 p (k : Int) = ((lstL p (nC p k)).length : Int)) : lstL p (nC p k) = lstL p (nC p (k + 1)) := by
  rw [lstL_len, at0_nat] at hx
  rw [nC_f hp hk hx]
theorem at0_memC {xs : List Int} {j : Nat} (h : j < xs.length) : at0 xs (j : Int) ∈ xs := by rw [at0_nat]; exact mem_getD h
theorem cls_rng {p : List Int} (hp : p = clsOf p) {k : Nat} (hk : k < p.length) : 0 ≤ at0 p (k : Int) ∧ at0 p (k : Int) < nC p p.length := by
  have h := seen_up hp p.length (Nat.le_refl _)
  rw [List.take_length] at h
  have hm : at0 p (k : Int) ∈ seenOf p := (mem_seenOf _ _).2 (at0_memC hk)
  rw [h] at hm
  simp only [upTo, List.mem_map, List.mem_range] at hm
  obtain ⟨j, hj, he⟩ := hm
  omega
end Go.Proofs.YtpcabkdkdnchaaaGreat
