
/- The program's ThenMaps. -/
import Derived.Test.YtfnneogadciimabThen
import Derived.Test.YtfnneogadciimabLawC
import Derived.Test.YtfnneogadciimabRul4
import Derived.Test.YtfnneogadciimabRul7
set_option linter.unusedSimpArgs false
set_option linter.unusedVariables false
set_option linter.unusedSectionVars false
namespace Go.Proofs.Ytfnneogadciimab
open Go.RowKit


theorem implSizeB_any (w : World) (n : Int) : Calls Try.prog 80 #[.int .i64 n] w (RetB w (decide (SizeP n))) := (implSize_any w n _ rfl).mono fun e w' h => by obtain ⟨rfl, rfl⟩ := h; exact ⟨rfl, Below.refl _ _⟩
theorem implMapB_any (w : World) (n : Int) (v : Value) (xs : List Int) (h : Rd w v xs) : Calls Try.prog 43 #[.int .i64 n, v] w (RetB w (decide (MapP n xs))) := implIsMap_any w n v xs _ h rfl
def fillTo2 (φ : Nat → Int) (n k : Nat) : List Int := (List.range n).map fun j => if j < k then φ j else 0
theorem fillTo2_len (φ : Nat → Int) (n k : Nat) : (fillTo2 φ n k).length = n := by simp [fillTo2]
theorem fillTo2_zero (φ : Nat → Int) (n : Nat) : List.replicate n 0 = fillTo2 φ n 0 := by
  symm
  refine List.eq_replicate_iff.2 ⟨by simp [fillTo2], fun b hb => ?_⟩
  unfold fillTo2 at hb
  obtain ⟨j, _, rfl⟩ := List.mem_map.1 hb
  simp
theorem fillTo2_end (φ : Nat → Int) (n : Nat) : fillTo2 φ n n = (List.range n).map φ := by
  unfold fillTo2
  apply List.map_congr_left
  intro j hj
  rw [if_pos (List.mem_range.1 hj)]
theorem fillTo2_get {φ : Nat → Int} {n k j : Nat} (hj : j < n) : (fillTo2 φ n k)[j]? = some (if j < k then φ j else 0) := by simp [fillTo2, List.getElem?_map, List.getElem?_range hj]
theorem fillTo2_set {φ : Nat → Int} {n k : Nat} (hk : k < n) : (fillTo2 φ n k).set k (φ k) = fillTo2 φ n (k + 1) := by
  apply List.ext_getElem?
  intro j
  rw [List.getElem?_set]
  by_cases hj : j < n
  · rw [fillTo2_get hj, fillTo2_get hj]
    by_cases e : k = j
    · subst e; simp [fillTo2_len, hk]
    · rw [if_neg e]
      by_cases h : j < k
      · rw [if_pos h, if_pos (by omega)]
      · rw [if_neg h, if_neg (by omega)]
  · have h1 : (fillTo2 φ n k)[j]? = none := by simp [fillTo2_len]; omega
    have h2 : (fillTo2 φ n (k + 1))[j]? = none := by simp [fillTo2_len]; omega
    rw [h1, h2, if_neg (by omega)]
theorem thenL_tab2 (f g : List Int) : (List.range f.length).map (fun j : Nat => at0 g (at0 f (j : Int))) = thenL f g := by
  apply List.ext_getElem?
  intro j
  unfold thenL
  by_cases hj : j < f.length
  · simp [List.getElem?_map, List.getElem?_range hj, hj, at0, List.getD_eq_getElem?_getD]
  · simp [List.getElem?_eq_none (by simpa using hj : (List.range f.length).length ≤ j), List.getElem?_eq_none (by simpa using hj : f.length ≤ j), List.getElem?_map]
theorem thm_ha {n : Int} {f g : List Int} (h1 : MapP n f) (h2 : (g.length : Int) = n) : AllP g.length f := by rw [h2]; exact h1.2.2
theorem thm_s {n k : Int} {f g : List Int} (h : ¬ (SizeP n ∧ SizeP k)) : fThenMaps n f k g = ([], 2) := if_neg h
theorem thm_n {n k : Int} {f g : List Int} (h : SizeP n) (h' : SizeP k) (hn : ¬ (MapP n f ∧ MapP k g ∧ (g.length : Int) = n)) : fThenMaps n f k g = ([], 1) := by unfold fThenMaps; rw [if_pos ⟨h, h'⟩, if_neg hn]
theorem thm_t {n k : Int} {f g : List Int} (h : SizeP n) (h' : SizeP k) (h1 : MapP n f) (h2 : MapP k g) (h3 : (g.length : Int) = n) : fThenMaps n f k g = (thenL f g, 0) := by unfold fThenMaps; rw [if_pos ⟨h, h'⟩, if_pos ⟨h1, h2, h3⟩]

set_option maxHeartbeats 1000000 in
set_option maxRecDepth 100000 in
theorem imagesOf2_any (w : World) (v : Value) (f : List Int) (u : Value) (g : List Int) (hf : Rd w v f) (hg : Rd w u g) (ha : AllP g.length f) :
    Calls Try.prog 81 #[v, u] w (RetL w (thenL f g)) := by
  obtain ⟨va, vc, rfl⟩ := rd_form hf
  obtain ⟨ua, uc, rfl⟩ := rd_form hg
  have hfl : f.length ≤ 17592186044415 := by obtain ⟨_, _, _, hl, _⟩ := hf; exact hl
  go_enter Try.func81, Try.ntmps81
  refine gc_enter (N := 27) rfl (look_cons (k := 0) rfl (look_cons (k := 1) rfl (look_nil _))) ?_
  refine gc_seq fun K1 hK1 => ?_
  refine gc_region ?_
  refine g_v (.free rfl) rfl rfl (qt_assign rfl rfl) ?_
  refine g_nil ?_
  refine gk_then (hK1 _ _ ?_)
  refine gc_seq fun K2 hK2 => ?_
  refine gc_region ?_
  refine g_v (.free rfl) rfl rfl (qt_move rfl rfl) ?_
  refine g_v (.free rfl) rfl rfl (qt_len rfl rfl ulE1 (fun w M => lenV_rd hf)) ?_
  refine g_op (.free rfl) fun K4 hK4 => ?_
  refine go_make1 rfl rfl rfl Try.underlying22 rfl rfl (by omega) ?_
  intro B3
  refine hK4 _ _ ?_
  refine g_v (.free rfl) rfl rfl (qt_assign rfl rfl) ?_
  refine g_nil ?_
  refine gk_then (hK2 _ _ ?_)
  refine gc_seq fun K5 hK5 => ?_
  refine gc_seq fun K6 hK6 => ?_
  refine gc_region ?_
  refine g_v (.free rfl) rfl rfl (qt_move rfl rfl) ?_
  refine g_v (.free rfl) rfl rfl (qt_len rfl rfl ulE1 (fun w M => lenV_rd hf)) ?_
  refine g_v (.free rfl) rfl rfl (qt_move rfl rfl) ?_
  refine g_nil ?_
  refine gk_then (hK6 _ _ ?_)
  refine gc_block ?_
  rw [fillTo2_zero (fun j => at0 g (at0 f (j : Int))) f.length]
  try simp only [List.nil_append, List.cons_append, List.append_assoc, List.set_cons_succ, List.set_cons_zero]
  refine gc_loop ([(0, _), (1, _), (4, _), (5, _), (11, _), (12, _)] : Env) (fun s : Nat => (fun (k : Nat) => ([(13, .int .i64 (k : Int))] : Env)) s) (fun s : Nat => (fun (k : Nat) => ([(0, own1I (.slice (some ⟨B3, 0, none⟩) f.length f.length) (fillTo2 (fun j => at0 g (at0 f (j : Int))) f.length k))] : List (Nat × Itm))) s) (fun s : Nat => (fun (k : Nat) => k ≤ f.length) s) (fun s : Nat => (fun (k : Nat) => f.length - k) s) (0) (sub_cons rfl (sub_cons rfl (sub_cons rfl (sub_cons rfl (sub_cons rfl (sub_cons rfl (sub_cons rfl sub_nil))))))) rfl (Nat.zero_le _) ?_
  rintro k hinv KL7 hKL7
  simp only [updL, List.foldl_cons, List.foldl_nil, List.set_cons_succ, List.set_cons_zero, List.cons_append, List.nil_append] at hinv hKL7 ⊢
  have hk := hinv
  have hfl2 := fillTo2_len (fun j => at0 g (at0 f (j : Int))) f.length k
  refine gc_seq fun K8 hK8 => ?_
  refine gc_region ?_
  refine g_v (.free rfl) rfl rfl (qt_lss rfl rfl rfl) ?_
  refine g_nil ?_
  refine gk_then (hK8 _ _ ?_)
  refine gc_seq fun K9 hK9 => ?_
  refine gc_cond rfl (fun hc0 => ?_) (fun hc0 => ?_)
  · try simp only [decide_eq_true_eq, decide_eq_false_iff_not, Bool.not_eq_true', Bool.not_eq_false', Bool.not_eq_eq_eq_not, Bool.not_true, Bool.not_false, ne_eq, Decidable.not_not, Classical.not_not] at hc0
    refine gc_skip ?_
    refine gk_then (hK9 _ _ ?_)
    refine gc_seq fun K10 hK10 => ?_
    refine gc_block ?_
    refine gc_seq fun K11 hK11 => ?_
    refine gc_region ?_
    refine g_v (.free rfl) rfl rfl (qt_move rfl rfl) ?_
    refine g_v (.free rfl) rfl rfl (qt_index rfl rfl rfl ulE1 szE1 (fun w M => lenA_rd hf) (by omega) (by omega)) ?_
    refine g_v (.free rfl) rfl rfl (qt_load1 rfl rfl Try.underlying2 rfl (fun w M => mem_rd M hf) (by omega) (by omega)) ?_
    refine g_v (.free rfl) rfl rfl (qt_assign rfl rfl) ?_
    refine g_v (.free rfl) rfl rfl (qt_assign rfl rfl) ?_
    refine g_nil ?_
    refine gk_then (hK11 _ _ ?_)
    have hk1 := allP_at ha (k := k) (by omega)
    refine gc_region ?_
    refine g_v (.free rfl) rfl rfl (qt_move rfl rfl) ?_
    refine g_v (.free rfl) rfl rfl (qt_move rfl rfl) ?_
    refine g_v (.free rfl) rfl rfl (qt_move rfl rfl) ?_
    refine g_v (.free rfl) rfl rfl (qt_move rfl rfl) ?_
    refine g_v (.free rfl) rfl rfl (qt_index rfl rfl rfl ulE1 szE1 (fun w M => lenA_rd hg) (by omega) (by omega)) ?_
    refine g_v (.free rfl) rfl rfl (qt_load1 rfl rfl Try.underlying2 rfl (fun w M => mem_rd M hg) (by omega) (by omega)) ?_
    refine g_v (.free rfl) rfl rfl (qt_index rfl rfl rfl ulE1 szE1 (fun w M => lenA_own1 (n := 0) rfl M) (by omega) (by omega)) ?_
    refine g_op (.free rfl) fun K12 hK12 => ?_
    refine go_store1 (n := 0) rfl rfl rfl rfl (by kernel_rfl) rfl (by omega) (by omega) ?_
    refine hK12 _ _ ?_
    refine g_nil ?_
    refine gk_block ?_
    refine gk_then (hK10 _ _ ?_)
    refine gc_region ?_
    refine g_v (.free rfl) rfl rfl (qt_add rfl rfl rfl (by omega)) ?_
    refine g_v (.free rfl) rfl rfl (qt_move rfl rfl) ?_
    refine g_nil ?_
    rw [Int.toNat_natCast, fillTo2_set (φ := fun j => at0 g (at0 f (j : Int))) (by omega)]
    refine gk_then (gk_take 1 ?_)
    refine gk_sub ?hs_13 (hKL7 (k + 1) ?hi_13 ?hm_13)
    case hs_13 => exact (sub_cons rfl (sub_cons rfl (sub_cons rfl (sub_cons rfl (sub_cons rfl (sub_cons rfl (sub_cons rfl sub_nil)))))))
    case hi_13 => omega
    case hm_13 => omega
  · try simp only [decide_eq_true_eq, decide_eq_false_iff_not, Bool.not_eq_true', Bool.not_eq_false', Bool.not_eq_eq_eq_not, Bool.not_true, Bool.not_false, ne_eq, Decidable.not_not, Classical.not_not] at hc0
    refine gc_exit ?_
    refine gk_then_exit ?_
    refine gk_then_exit ?_
    refine gk_block_hit ?_
    refine gk_then (hK5 _ _ ?_)
    refine gc_seq fun K14 hK14 => ?_
    refine gc_region ?_
    refine g_v (.free rfl) rfl rfl (qt_move rfl rfl) ?_
    refine g_v (.free rfl) rfl rfl (qt_assign rfl rfl) ?_
    refine g_nil ?_
    refine gk_then (hK14 _ _ ?_)
    refine gc_ret ?_
    refine ret_1 rfl rfl  (fun w M => ?_)
    obtain rfl : k = f.length := by omega
    rw [fillTo2_end, thenL_tab2] at M
    exact ⟨_, rfl, mem_own1 (n := 0) M rfl, M.1⟩

set_option maxHeartbeats 1000000 in
set_option maxRecDepth 100000 in
theorem impl_ThenMaps (w : World) (n : Int) (v : Value) (f : List Int) (k : Int) (u : Value) (g : List Int) (hf : Rd w v f) (hg : Rd w u g) :
    Calls Try.prog 28 #[.int .i64 n, v, .int .i64 k, u] w (RetLI w (fThenMaps n f k g).1 (fThenMaps n f k g).2) := by
  obtain ⟨va, vc, rfl⟩ := rd_form hf
  obtain ⟨ua, uc, rfl⟩ := rd_form hg
  go_enter Try.func28, Try.ntmps28
  refine gc_enter (N := 37) rfl (look_cons (k := 0) rfl (look_cons (k := 1) rfl (look_cons (k := 2) rfl (look_cons (k := 3) rfl (look_nil _))))) ?_
  refine gc_seq fun K1 hK1 => ?_
  refine gc_region ?_
  refine g_v (.free rfl) rfl rfl (qt_assign rfl rfl) ?_
  refine g_v (.free rfl) rfl rfl (qt_assign rfl rfl) ?_
  refine g_nil ?_
  refine gk_then (hK1 _ _ ?_)
  refine gc_seq fun K2 hK2 => ?_
  refine gc_seq fun K3 hK3 => ?_
  refine gc_region ?_
  refine g_v (.free rfl) rfl rfl (qt_move rfl rfl) ?_
  refine g_q (.free rfl) rfl rfl (qt_call rfl Try.func80 rfl (by decide) rfl (fun w M => implSizeB_any w _)) ?_
  refine g_v (.free rfl) rfl rfl (qt_not rfl rfl) ?_
  refine g_splitv (.free rfl) rfl rfl (qt_move rfl rfl) (fun hs1_3 => ?_) (fun hs1_3 => ?_)
  · try simp only [decide_eq_true_eq, decide_eq_false_iff_not, Bool.not_eq_true', Bool.not_eq_false', Bool.not_eq_eq_eq_not, Bool.not_true, Bool.not_false, ne_eq, Decidable.not_not, Classical.not_not] at hs1_3
    refine g_skip (.not _ _ _ _ rfl rfl rfl rfl) rfl rfl ?_
    refine g_skip (.not _ _ _ _ rfl rfl rfl rfl) rfl rfl ?_
    refine g_skip (.not _ _ _ _ rfl rfl rfl rfl) rfl rfl ?_
    refine g_v (.free rfl) rfl rfl (qt_pick_t rfl rfl rfl) ?_
    refine g_nil ?_
    refine gk_then (hK3 _ _ ?_)
    refine gc_cond_t rfl ?_
    refine gc_seq fun K4 hK4 => ?_
    refine gc_region ?_
    refine g_v (.free rfl) rfl rfl (qt_assign rfl rfl) ?_
    refine g_v (.free rfl) rfl rfl (qt_assign rfl rfl) ?_
    refine g_nil ?_
    refine gk_then (hK4 _ _ ?_)
    refine gc_ret ?_
    refine gk_then_ret ?_
    refine ret_2 rfl rfl rfl  (fun w M => ?_)
    first | (rw [thm_s (by intro hh; simp_all)]; exact retLI_nil M.1) | (rw [thm_n (by simp_all) (by simp_all) (by intro hh; simp_all)]; exact retLI_nil M.1) | (rw [thm_t (by simp_all) (by simp_all) (by simp_all) (by simp_all) (by simp_all)]; exact ⟨_, rfl, mem_own1 (n := 0) M rfl, M.1⟩)
  · try simp only [decide_eq_true_eq, decide_eq_false_iff_not, Bool.not_eq_true', Bool.not_eq_false', Bool.not_eq_eq_eq_not, Bool.not_true, Bool.not_false, ne_eq, Decidable.not_not, Classical.not_not] at hs1_3
    refine g_v (.held _ _ _ rfl rfl rfl) rfl rfl (qt_move rfl rfl) ?_
    refine g_q (.held _ _ _ rfl rfl rfl) rfl rfl (qt_call rfl Try.func80 rfl (by decide) rfl (fun w M => implSizeB_any w _)) ?_
    refine g_v (.held _ _ _ rfl rfl rfl) rfl rfl (qt_not rfl rfl) ?_
    refine g_v (.free rfl) rfl rfl (qt_pick_f rfl rfl rfl) ?_
    refine g_nil ?_
    refine gk_then (hK3 _ _ ?_)
    refine gc_cond rfl (fun hc0 => ?_) (fun hc0 => ?_)
    · try simp only [decide_eq_true_eq, decide_eq_false_iff_not, Bool.not_eq_true', Bool.not_eq_false', Bool.not_eq_eq_eq_not, Bool.not_true, Bool.not_false, ne_eq, Decidable.not_not, Classical.not_not] at hc0
      refine gc_seq fun K5 hK5 => ?_
      refine gc_region ?_
      refine g_v (.free rfl) rfl rfl (qt_assign rfl rfl) ?_
      refine g_v (.free rfl) rfl rfl (qt_assign rfl rfl) ?_
      refine g_nil ?_
      refine gk_then (hK5 _ _ ?_)
      refine gc_ret ?_
      refine gk_then_ret ?_
      refine ret_2 rfl rfl rfl  (fun w M => ?_)
      first | (rw [thm_s (by intro hh; simp_all)]; exact retLI_nil M.1) | (rw [thm_n (by simp_all) (by simp_all) (by intro hh; simp_all)]; exact retLI_nil M.1) | (rw [thm_t (by simp_all) (by simp_all) (by simp_all) (by simp_all) (by simp_all)]; exact ⟨_, rfl, mem_own1 (n := 0) M rfl, M.1⟩)
    · try simp only [decide_eq_true_eq, decide_eq_false_iff_not, Bool.not_eq_true', Bool.not_eq_false', Bool.not_eq_eq_eq_not, Bool.not_true, Bool.not_false, ne_eq, Decidable.not_not, Classical.not_not] at hc0
      refine gc_skip ?_
      refine gk_then (hK2 _ _ ?_)
      refine gc_seq fun K6 hK6 => ?_
      refine gc_seq fun K7 hK7 => ?_
      refine gc_region ?_
      refine g_v (.free rfl) rfl rfl (qt_move rfl rfl) ?_
      refine g_v (.free rfl) rfl rfl (qt_move rfl rfl) ?_
      refine g_q (.free rfl) rfl rfl (qt_call rfl Try.func43 rfl (by decide) rfl (fun w M => implMapB_any w _ _ _ (mem_rd M hf))) ?_
      refine g_v (.free rfl) rfl rfl (qt_not rfl rfl) ?_
      refine g_splitv (.free rfl) rfl rfl (qt_move rfl rfl) (fun hs3_4 => ?_) (fun hs3_4 => ?_)
      · try simp only [decide_eq_true_eq, decide_eq_false_iff_not, Bool.not_eq_true', Bool.not_eq_false', Bool.not_eq_eq_eq_not, Bool.not_true, Bool.not_false, ne_eq, Decidable.not_not, Classical.not_not] at hs3_4
        refine g_skip (.not _ _ _ _ rfl rfl rfl rfl) rfl rfl ?_
        refine g_skip (.not _ _ _ _ rfl rfl rfl rfl) rfl rfl ?_
        refine g_skip (.not _ _ _ _ rfl rfl rfl rfl) rfl rfl ?_
        refine g_skip (.not _ _ _ _ rfl rfl rfl rfl) rfl rfl ?_
        refine g_v (.free rfl) rfl rfl (qt_pick_t rfl rfl rfl) ?_
        refine g_v (.free rfl) rfl rfl (qt_move rfl rfl) ?_
        refine g_skip (.not _ _ _ _ rfl rfl rfl rfl) rfl rfl ?_
        refine g_skip (.not _ _ _ _ rfl rfl rfl rfl) rfl rfl ?_
        refine g_skip (.not _ _ _ _ rfl rfl rfl rfl) rfl rfl ?_
        refine g_skip (.not _ _ _ _ rfl rfl rfl rfl) rfl rfl ?_
        refine g_v (.free rfl) rfl rfl (qt_pick_t rfl rfl rfl) ?_
        refine g_nil ?_
        refine gk_then (hK7 _ _ ?_)
        refine gc_cond_t rfl ?_
        refine gc_seq fun K8 hK8 => ?_
        refine gc_region ?_
        refine g_v (.free rfl) rfl rfl (qt_assign rfl rfl) ?_
        refine g_v (.free rfl) rfl rfl (qt_assign rfl rfl) ?_
        refine g_nil ?_
        refine gk_then (hK8 _ _ ?_)
        refine gc_ret ?_
        refine gk_then_ret ?_
        refine ret_2 rfl rfl rfl  (fun w M => ?_)
        first | (rw [thm_s (by intro hh; simp_all)]; exact retLI_nil M.1) | (rw [thm_n (by simp_all) (by simp_all) (by intro hh; simp_all)]; exact retLI_nil M.1) | (rw [thm_t (by simp_all) (by simp_all) (by simp_all) (by simp_all) (by simp_all)]; exact ⟨_, rfl, mem_own1 (n := 0) M rfl, M.1⟩)
      · try simp only [decide_eq_true_eq, decide_eq_false_iff_not, Bool.not_eq_true', Bool.not_eq_false', Bool.not_eq_eq_eq_not, Bool.not_true, Bool.not_false, ne_eq, Decidable.not_not, Classical.not_not] at hs3_4
        refine g_v (.held _ _ _ rfl rfl rfl) rfl rfl (qt_move rfl rfl) ?_
        refine g_v (.held _ _ _ rfl rfl rfl) rfl rfl (qt_move rfl rfl) ?_
        refine g_q (.held _ _ _ rfl rfl rfl) rfl rfl (qt_call rfl Try.func43 rfl (by decide) rfl (fun w M => implMapB_any w _ _ _ (mem_rd M hg))) ?_
        refine g_v (.held _ _ _ rfl rfl rfl) rfl rfl (qt_not rfl rfl) ?_
        refine g_v (.free rfl) rfl rfl (qt_pick_f rfl rfl rfl) ?_
        refine g_splitv (.free rfl) rfl rfl (qt_move rfl rfl) (fun hs3_10 => ?_) (fun hs3_10 => ?_)
        · try simp only [decide_eq_true_eq, decide_eq_false_iff_not, Bool.not_eq_true', Bool.not_eq_false', Bool.not_eq_eq_eq_not, Bool.not_true, Bool.not_false, ne_eq, Decidable.not_not, Classical.not_not] at hs3_10
          refine g_skip (.not _ _ _ _ rfl rfl rfl rfl) rfl rfl ?_
          refine g_skip (.not _ _ _ _ rfl rfl rfl rfl) rfl rfl ?_
          refine g_skip (.not _ _ _ _ rfl rfl rfl rfl) rfl rfl ?_
          refine g_skip (.not _ _ _ _ rfl rfl rfl rfl) rfl rfl ?_
          refine g_v (.free rfl) rfl rfl (qt_pick_t rfl rfl rfl) ?_
          refine g_nil ?_
          refine gk_then (hK7 _ _ ?_)
          refine gc_cond_t rfl ?_
          refine gc_seq fun K9 hK9 => ?_
          refine gc_region ?_
          refine g_v (.free rfl) rfl rfl (qt_assign rfl rfl) ?_
          refine g_v (.free rfl) rfl rfl (qt_assign rfl rfl) ?_
          refine g_nil ?_
          refine gk_then (hK9 _ _ ?_)
          refine gc_ret ?_
          refine gk_then_ret ?_
          refine ret_2 rfl rfl rfl  (fun w M => ?_)
          first | (rw [thm_s (by intro hh; simp_all)]; exact retLI_nil M.1) | (rw [thm_n (by simp_all) (by simp_all) (by intro hh; simp_all)]; exact retLI_nil M.1) | (rw [thm_t (by simp_all) (by simp_all) (by simp_all) (by simp_all) (by simp_all)]; exact ⟨_, rfl, mem_own1 (n := 0) M rfl, M.1⟩)
        · try simp only [decide_eq_true_eq, decide_eq_false_iff_not, Bool.not_eq_true', Bool.not_eq_false', Bool.not_eq_eq_eq_not, Bool.not_true, Bool.not_false, ne_eq, Decidable.not_not, Classical.not_not] at hs3_10
          refine g_v (.held _ _ _ rfl rfl rfl) rfl rfl (qt_move rfl rfl) ?_
          refine g_v (.held _ _ _ rfl rfl rfl) rfl rfl (qt_len rfl rfl ulE1 (fun w M => lenV_rd hg)) ?_
          refine g_v (.held _ _ _ rfl rfl rfl) rfl rfl (qt_move rfl rfl) ?_
          refine g_v (.held _ _ _ rfl rfl rfl) rfl rfl (qt_neq rfl rfl rfl) ?_
          refine g_v (.free rfl) rfl rfl (qt_pick_f rfl rfl rfl) ?_
          refine g_nil ?_
          refine gk_then (hK7 _ _ ?_)
          refine gc_cond rfl (fun hc1 => ?_) (fun hc1 => ?_)
          · try simp only [decide_eq_true_eq, decide_eq_false_iff_not, Bool.not_eq_true', Bool.not_eq_false', Bool.not_eq_eq_eq_not, Bool.not_true, Bool.not_false, ne_eq, Decidable.not_not, Classical.not_not] at hc1
            refine gc_seq fun K10 hK10 => ?_
            refine gc_region ?_
            refine g_v (.free rfl) rfl rfl (qt_assign rfl rfl) ?_
            refine g_v (.free rfl) rfl rfl (qt_assign rfl rfl) ?_
            refine g_nil ?_
            refine gk_then (hK10 _ _ ?_)
            refine gc_ret ?_
            refine gk_then_ret ?_
            refine ret_2 rfl rfl rfl  (fun w M => ?_)
            first | (rw [thm_s (by intro hh; simp_all)]; exact retLI_nil M.1) | (rw [thm_n (by simp_all) (by simp_all) (by intro hh; simp_all)]; exact retLI_nil M.1) | (rw [thm_t (by simp_all) (by simp_all) (by simp_all) (by simp_all) (by simp_all)]; exact ⟨_, rfl, mem_own1 (n := 0) M rfl, M.1⟩)
          · try simp only [decide_eq_true_eq, decide_eq_false_iff_not, Bool.not_eq_true', Bool.not_eq_false', Bool.not_eq_eq_eq_not, Bool.not_true, Bool.not_false, ne_eq, Decidable.not_not, Classical.not_not] at hc1
            refine gc_skip ?_
            refine gk_then (hK6 _ _ ?_)
            refine gc_seq fun K11 hK11 => ?_
            refine gc_region ?_
            refine g_v (.free rfl) rfl rfl (qt_move rfl rfl) ?_
            refine g_v (.free rfl) rfl rfl (qt_move rfl rfl) ?_
            refine g_op (.free rfl) fun K13 hK13 => ?_
            refine go_callL rfl rfl rfl Try.func81 rfl (by decide) rfl (fun w M => imagesOf2_any w _ _ _ _ (mem_rd M hf) (mem_rd M hg) (thm_ha (n := n) (by simp_all) (by simp_all))) ?_
            intro va12 vc12
            refine hK13 _ _ ?_
            refine g_v (.free rfl) rfl rfl (qt_assign rfl rfl) ?_
            refine g_v (.free rfl) rfl rfl (qt_assign rfl rfl) ?_
            refine g_nil ?_
            refine gk_then (hK11 _ _ ?_)
            refine gc_ret ?_
            refine ret_2 rfl rfl rfl  (fun w M => ?_)
            first | (rw [thm_s (by intro hh; simp_all)]; exact retLI_nil M.1) | (rw [thm_n (by simp_all) (by simp_all) (by intro hh; simp_all)]; exact retLI_nil M.1) | (rw [thm_t (by simp_all) (by simp_all) (by simp_all) (by simp_all) (by simp_all)]; exact ⟨_, rfl, mem_own1 (n := 0) M rfl, M.1⟩)

end Go.Proofs.Ytfnneogadciimab
