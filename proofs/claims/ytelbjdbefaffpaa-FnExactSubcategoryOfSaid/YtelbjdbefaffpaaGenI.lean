
/- Subcategories that are generated: the program's statements, and both sides of SubcategoryOf. -/
import Derived.Test.YtelbjdbefaffpaaGenP
import Derived.Test.YtelbjdbefaffpaaFull
set_option linter.unusedSimpArgs false
set_option linter.unusedVariables false
set_option linter.unusedSectionVars false
namespace Go.Proofs.Ytelbjdbefaffpaa
open Go.RowKit


noncomputable def fSubcategoryOf (c : Cat) (xs : List Int) : Cat × Int := if arrErr c xs = 0 then (if xs = genL c xs c.s.length then (partC c xs, 0) else (cat0, 5)) else (cat0, arrErr c xs)
theorem sub_e {c : Cat} {xs : List Int} (h : ¬ arrErr c xs = 0) : fSubcategoryOf c xs = (cat0, arrErr c xs) := if_neg h
theorem sub_n {c : Cat} {xs : List Int} (h : arrErr c xs = 0) (h' : ¬ xs = genL c xs c.s.length) : fSubcategoryOf c xs = (cat0, 5) := by unfold fSubcategoryOf; rw [if_pos h, if_neg h']
theorem sub_t {c : Cat} {xs : List Int} (h : arrErr c xs = 0) (h' : xs = genL c xs c.s.length) : fSubcategoryOf c xs = (partC c xs, 0) := by unfold fSubcategoryOf; rw [if_pos h, if_pos h']
theorem gen_len40 {c : Cat} {xs : List Int} (hS : ShapeP c) (h' : xs = genL c xs c.s.length) : xs.length ≤ 40 := by
  have := gen_len c xs c.s.length; have h2 := hS.n40; rw [← h'] at this; omega
theorem ext_at0 {xs ys : List Int} (hl : xs.length = ys.length) (h : ∀ j : Nat, j < xs.length → at0 xs (j : Int) = at0 ys (j : Int)) : xs = ys := by
  refine List.ext_getElem hl fun j h1 h2 => ?_
  have := h j h1
  rw [at0_nat, at0_nat, List.getD_eq_getElem?_getD, List.getD_eq_getElem?_getD, List.getElem?_eq_getElem h1, List.getElem?_eq_getElem h2] at this
  exact this

set_option maxHeartbeats 1000000 in
set_option maxRecDepth 100000 in
theorem slEqual_any (w : World) (v : Value) (xs : List Int) (u : Value) (ys : List Int) (hv : Rd w v xs) (hu : Rd w u ys) :
    Calls Try.prog 74 #[v, u] w (RetB w (decide (xs = ys))) := by
  obtain ⟨va, vc, rfl⟩ := rd_form hv
  obtain ⟨ua, uc, rfl⟩ := rd_form hu
  have hxl : xs.length ≤ 17592186044415 := by obtain ⟨_, _, _, hl, _⟩ := hv; exact hl
  go_enter Try.func74, Try.ntmps74
  refine gc_enter (N := 26) rfl (look_cons (k := 0) rfl (look_cons (k := 1) rfl (look_nil _))) ?_
  refine gc_seq fun K1 hK1 => ?_
  refine gc_region ?_
  refine g_v (.free rfl) rfl rfl (qt_assign rfl rfl) ?_
  refine g_nil ?_
  refine gk_then (hK1 _ _ ?_)
  refine gc_seq fun K2 hK2 => ?_
  refine gc_seq fun K3 hK3 => ?_
  refine gc_region ?_
  refine g_v (.free rfl) rfl rfl (qt_move rfl rfl) ?_
  refine g_v (.free rfl) rfl rfl (qt_len rfl rfl ulE1 (fun w M => lenV_rd hv)) ?_
  refine g_v (.free rfl) rfl rfl (qt_move rfl rfl) ?_
  refine g_v (.free rfl) rfl rfl (qt_len rfl rfl ulE1 (fun w M => lenV_rd hu)) ?_
  refine g_v (.free rfl) rfl rfl (qt_neq rfl rfl rfl) ?_
  refine g_nil ?_
  refine gk_then (hK3 _ _ ?_)
  refine gc_cond rfl (fun hc0 => ?_) (fun hc0 => ?_)
  · try simp only [decide_eq_true_eq, decide_eq_false_iff_not, Bool.not_eq_true', Bool.not_eq_false', Bool.not_eq_eq_eq_not, Bool.not_true, Bool.not_false, ne_eq, Decidable.not_not, Classical.not_not] at hc0
    refine gc_seq fun K4 hK4 => ?_
    refine gc_region ?_
    refine g_v (.free rfl) rfl rfl (qt_assign rfl rfl) ?_
    refine g_nil ?_
    refine gk_then (hK4 _ _ ?_)
    refine gc_ret ?_
    refine gk_then_ret ?_
    refine ret_1 rfl rfl  (fun w M => ?_)
    rw [decide_eq_false fun h => hc0 (by rw [h])]; exact ⟨rfl, M.1⟩
  · try simp only [decide_eq_true_eq, decide_eq_false_iff_not, Bool.not_eq_true', Bool.not_eq_false', Bool.not_eq_eq_eq_not, Bool.not_true, Bool.not_false, ne_eq, Decidable.not_not, Classical.not_not] at hc0
    refine gc_skip ?_
    refine gk_then (hK2 _ _ ?_)
    refine gc_seq fun K5 hK5 => ?_
    refine gc_seq fun K6 hK6 => ?_
    refine gc_region ?_
    refine g_v (.free rfl) rfl rfl (qt_move rfl rfl) ?_
    refine g_v (.free rfl) rfl rfl (qt_len rfl rfl ulE1 (fun w M => lenV_rd hv)) ?_
    refine g_v (.free rfl) rfl rfl (qt_move rfl rfl) ?_
    refine g_nil ?_
    refine gk_then (hK6 _ _ ?_)
    refine gc_block ?_
    try simp only [List.nil_append, List.cons_append, List.append_assoc, List.set_cons_succ, List.set_cons_zero]
    refine gc_loop ([(0, _), (1, _), (10, _), (12, _)] : Env) (fun s : Nat => (fun (k : Nat) => ([(13, .int .i64 (k : Int))] : Env)) s) (fun s : Nat => (fun (k : Nat) => ([] : List (Nat × Itm))) s) (fun s : Nat => (fun (k : Nat) => k ≤ xs.length ∧ ∀ j : Nat, j < k → at0 xs (j : Int) = at0 ys (j : Int)) s) (fun s : Nat => (fun (k : Nat) => xs.length - k) s) (0) (sub_cons rfl (sub_cons rfl (sub_cons rfl (sub_cons rfl (sub_cons rfl sub_nil))))) rfl ⟨Nat.zero_le _, fun j hj => absurd hj (by omega)⟩ ?_
    rintro k hinv KL7 hKL7
    simp only [updL, List.foldl_cons, List.foldl_nil, List.set_cons_succ, List.set_cons_zero, List.cons_append, List.nil_append] at hinv hKL7 ⊢
    obtain ⟨hk, hj⟩ := hinv
    refine gc_seq fun K8 hK8 => ?_
    refine gc_region ?_
    refine g_v (.free rfl) rfl rfl (qt_lss rfl rfl rfl) ?_
    refine g_nil ?_
    refine gk_then (hK8 _ _ ?_)
    refine gc_seq fun K9 hK9 => ?_
    refine gc_cond rfl (fun hc1 => ?_) (fun hc1 => ?_)
    · try simp only [decide_eq_true_eq, decide_eq_false_iff_not, Bool.not_eq_true', Bool.not_eq_false', Bool.not_eq_eq_eq_not, Bool.not_true, Bool.not_false, ne_eq, Decidable.not_not, Classical.not_not] at hc1
      refine gc_skip ?_
      refine gk_then (hK9 _ _ ?_)
      refine gc_seq fun K10 hK10 => ?_
      refine gc_block ?_
      refine gc_seq fun K11 hK11 => ?_
      refine gc_region ?_
      refine g_v (.free rfl) rfl rfl (qt_move rfl rfl) ?_
      refine g_v (.free rfl) rfl rfl (qt_assign rfl rfl) ?_
      refine g_nil ?_
      refine gk_then (hK11 _ _ ?_)
      refine gc_seq fun K12 hK12 => ?_
      refine gc_draw (by kernel_rfl) ?_
      refine gd_v (.free rfl) rfl rfl (qt_move rfl rfl) ?_
      refine gd_v (.free rfl) rfl rfl (qt_move rfl rfl) ?_
      refine gd_v (.free rfl) rfl rfl (qt_index rfl rfl rfl ulE1 szE1 (fun w M => lenA_rd hv) (by omega) (by omega)) ?_
      refine gd_v (.free rfl) rfl rfl (qt_load1 rfl rfl Try.underlying2 rfl (fun w M => mem_rd M hv) (by omega) (by omega)) ?_
      refine gd_v (.free rfl) rfl rfl (qt_move rfl rfl) ?_
      refine gd_v (.free rfl) rfl rfl (qt_move rfl rfl) ?_
      refine gd_v (.free rfl) rfl rfl (qt_index rfl rfl rfl ulE1 szE1 (fun w M => lenA_rd hu) (by omega) (by omega)) ?_
      refine gd_v (.free rfl) rfl rfl (qt_load1 rfl rfl Try.underlying2 rfl (fun w M => mem_rd M hu) (by omega) (by omega)) ?_
      refine gd_v (.free rfl) rfl rfl (qt_neq rfl rfl rfl) ?_
      refine gd_nil ?_
      refine gk_then (hK12 _ _ ?_)
      refine gc_cond rfl (fun hc2 => ?_) (fun hc2 => ?_)
      · try simp only [decide_eq_true_eq, decide_eq_false_iff_not, Bool.not_eq_true', Bool.not_eq_false', Bool.not_eq_eq_eq_not, Bool.not_true, Bool.not_false, ne_eq, Decidable.not_not, Classical.not_not] at hc2
        refine gc_seq fun K13 hK13 => ?_
        refine gc_region ?_
        refine g_v (.free rfl) rfl rfl (qt_assign rfl rfl) ?_
        refine g_nil ?_
        refine gk_then (hK13 _ _ ?_)
        refine gc_ret ?_
        refine gk_block_ret ?_
        refine gk_then_ret ?_
        refine gk_then_ret ?_
        refine gk_block_ret ?_
        refine gk_then_ret ?_
        refine ret_1 rfl rfl  (fun w M => ?_)
        rw [decide_eq_false fun h => hc2 (by rw [h])]; exact ⟨rfl, M.1⟩
      · try simp only [decide_eq_true_eq, decide_eq_false_iff_not, Bool.not_eq_true', Bool.not_eq_false', Bool.not_eq_eq_eq_not, Bool.not_true, Bool.not_false, ne_eq, Decidable.not_not, Classical.not_not] at hc2
        refine gc_skip ?_
        refine gk_block ?_
        refine gk_then (hK10 _ _ ?_)
        refine gc_region ?_
        refine g_v (.free rfl) rfl rfl (qt_add rfl rfl rfl (by omega)) ?_
        refine g_v (.free rfl) rfl rfl (qt_move rfl rfl) ?_
        refine g_nil ?_
        refine gk_then (gk_take 0 ?_)
        refine gk_sub ?hs_14 (hKL7 (k + 1) ?hi_14 ?hm_14)
        case hs_14 => exact (sub_cons rfl (sub_cons rfl (sub_cons rfl (sub_cons rfl (sub_cons rfl sub_nil)))))
        case hi_14 => exact ⟨by omega, all_next0 hj hc2⟩
        case hm_14 => omega
    · try simp only [decide_eq_true_eq, decide_eq_false_iff_not, Bool.not_eq_true', Bool.not_eq_false', Bool.not_eq_eq_eq_not, Bool.not_true, Bool.not_false, ne_eq, Decidable.not_not, Classical.not_not] at hc1
      refine gc_exit ?_
      refine gk_then_exit ?_
      refine gk_then_exit ?_
      refine gk_block_hit ?_
      refine gk_then (hK5 _ _ ?_)
      refine gc_seq fun K15 hK15 => ?_
      refine gc_region ?_
      refine g_v (.free rfl) rfl rfl (qt_assign rfl rfl) ?_
      refine g_nil ?_
      refine gk_then (hK15 _ _ ?_)
      refine gc_ret ?_
      refine ret_1 rfl rfl  (fun w M => ?_)
      rw [decide_eq_true (ext_at0 (by omega) fun j h => hj j (by omega))]; exact ⟨rfl, M.1⟩

set_option maxHeartbeats 1000000 in
set_option maxRecDepth 100000 in
theorem isSub_any (w : World) (v u : Value) (c : Cat) (xs : List Int) (h : RdC w v c) (hS : ShapeP c) (hu : Rd w u xs) (hx : AllP c.s.length xs) :
    Calls Try.prog 41 #[v, u] w (RetB w (decide (genL c xs c.s.length = xs))) := by
  have h0 := h
  obtain ⟨va, vb, vc, vd, ve, vf, vg, vh, rfl, h1, h2, h3, h4, _⟩ := h.lists
  obtain ⟨ua, uc, rfl⟩ := rd_form hu
  go_enter Try.func41, Try.ntmps41
  refine gc_enter (N := 10) rfl (look_cons (k := 0) rfl (look_cons (k := 1) rfl (look_nil _))) ?_
  refine gc_seq fun K1 hK1 => ?_
  refine gc_region ?_
  refine g_op (.free rfl) fun K3 hK3 => ?_
  refine go_box rfl rfl rfl rfl rfl ?_
  intro B2
  refine hK3 _ _ ?_
  refine g_v (.free rfl) rfl rfl (qt_assign rfl rfl) ?_
  refine g_nil ?_
  refine gk_then (hK1 _ _ ?_)
  refine gc_seq fun K4 hK4 => ?_
  refine gc_region ?_
  refine g_v (.free rfl) rfl rfl (qt_loadS (n := 0) rfl rfl Try.underlying29 rfl (by kernel_rfl) rfl) ?_
  refine g_v (.free rfl) rfl rfl (qt_move rfl rfl) ?_
  refine g_op (.free rfl) fun K6 hK6 => ?_
  refine go_callL rfl rfl rfl Try.func43 rfl (by decide) rfl (fun w M => gen_any w _ _ _ _ (mem_rdC M h0) (by first | assumption | omega) (mem_rd M hu) (by first | assumption | omega)) ?_
  intro va5 vc5
  refine hK6 _ _ ?_
  refine g_v (.free rfl) rfl rfl (qt_move rfl rfl) ?_
  refine g_q (.free rfl) rfl rfl (qt_call rfl Try.func74 rfl (by decide) rfl (fun w M => slEqual_any w _ _ _ _ ((mem_own1 (n := 1) M rfl).rd) (mem_rd M hu))) ?_
  refine g_v (.free rfl) rfl rfl (qt_assign rfl rfl) ?_
  refine g_nil ?_
  refine gk_then (hK4 _ _ ?_)
  refine gc_ret ?_
  refine ret_1 rfl rfl  (fun w M => ?_)
  exact ⟨rfl, M.1⟩

set_option maxHeartbeats 1000000 in
set_option maxRecDepth 100000 in
theorem impl_GeneratedArrows (w : World) (v : Value) (c : Cat) (u : Value) (xs : List Int) (h : RdC w v c) (hu : Rd w u xs) :
    Calls Try.prog 17 #[v, u] w (RetLI w (fGeneratedArrows c xs).1 (fGeneratedArrows c xs).2) := by
  have h0 := h
  obtain ⟨va, vb, vc, vd, ve, vf, vg, vh, rfl, h1, h2, h3, h4, _⟩ := h.lists
  obtain ⟨ua, uc, rfl⟩ := rd_form hu
  go_enter Try.func17, Try.ntmps17
  refine gc_enter (N := 20) rfl (look_cons (k := 0) rfl (look_cons (k := 1) rfl (look_nil _))) ?_
  refine gc_seq fun K1 hK1 => ?_
  refine gc_region ?_
  refine g_op (.free rfl) fun K3 hK3 => ?_
  refine go_box rfl rfl rfl rfl rfl ?_
  intro B2
  refine hK3 _ _ ?_
  refine g_v (.free rfl) rfl rfl (qt_assign rfl rfl) ?_
  refine g_v (.free rfl) rfl rfl (qt_assign rfl rfl) ?_
  refine g_nil ?_
  refine gk_then (hK1 _ _ ?_)
  refine gc_seq fun K4 hK4 => ?_
  refine gc_region ?_
  refine g_v (.free rfl) rfl rfl (qt_loadS (n := 0) rfl rfl Try.underlying29 rfl (by kernel_rfl) rfl) ?_
  refine g_v (.free rfl) rfl rfl (qt_move rfl rfl) ?_
  refine g_op (.free rfl) fun K6 hK6 => ?_
  refine go_callCI rfl rfl rfl Try.func40 rfl (by decide) rfl (fun w M => readArrows_any w _ _ _ _ (mem_rdC M h0) (mem_rd M hu)) ?_
  intro ca5 cb5 cc5 cd5 ce5 cf5 cg5 ch5 cu5
  refine hK6 _ _ ?_
  refine g_v (.free rfl) rfl rfl (qt_move rfl rfl) ?_
  refine g_v (.free rfl) rfl rfl (qt_extract rfl rfl rfl) ?_
  refine g_v (.free rfl) rfl rfl (qt_extract rfl rfl rfl) ?_
  refine g_op (.free rfl) fun K8 hK8 => ?_
  refine go_alloc (z := (.agg #[.int .i64 0, .slice none 0 0, .slice none 0 0, .slice none 0 0, .slice none 0 0])) (cs := [.int .i64 0, .slice none 0 0, .slice none 0 0, .slice none 0 0, .slice none 0 0]) rfl rfl rfl (fun w => by kernel_rfl) rfl ?_
  intro B7
  refine hK8 _ _ ?_
  refine g_op (.free rfl) fun K9 hK9 => ?_
  refine go_storeS (n := 5) rfl rfl rfl rfl (by kernel_rfl) rfl rfl rfl ?_
  refine hK9 _ _ ?_
  refine g_v (.free rfl) rfl rfl (qt_assign rfl rfl) ?_
  refine g_nil ?_
  refine gk_then (hK4 _ _ ?_)
  refine gc_seq fun K10 hK10 => ?_
  refine gc_seq fun K11 hK11 => ?_
  refine gc_region ?_
  refine g_v (.free rfl) rfl rfl (qt_move rfl rfl) ?_
  refine g_v (.free rfl) rfl rfl (qt_neq rfl rfl rfl) ?_
  refine g_nil ?_
  refine gk_then (hK11 _ _ ?_)
  refine gc_cond rfl (fun hc0 => ?_) (fun hc0 => ?_)
  · try simp only [decide_eq_true_eq, decide_eq_false_iff_not, Bool.not_eq_true', Bool.not_eq_false', Bool.not_eq_eq_eq_not, Bool.not_true, Bool.not_false, ne_eq, Decidable.not_not, Classical.not_not] at hc0
    refine gc_seq fun K12 hK12 => ?_
    refine gc_region ?_
    refine g_v (.free rfl) rfl rfl (qt_move rfl rfl) ?_
    refine g_v (.free rfl) rfl rfl (qt_assign rfl rfl) ?_
    refine g_v (.free rfl) rfl rfl (qt_assign rfl rfl) ?_
    refine g_nil ?_
    refine gk_then (hK12 _ _ ?_)
    refine gc_ret ?_
    refine gk_then_ret ?_
    refine ret_2 rfl rfl rfl  (fun w M => ?_)
    rw [gens_e hc0]; exact ⟨_, rfl, Sl.nil _ _, M.1⟩
  · try simp only [decide_eq_true_eq, decide_eq_false_iff_not, Bool.not_eq_true', Bool.not_eq_false', Bool.not_eq_eq_eq_not, Bool.not_true, Bool.not_false, ne_eq, Decidable.not_not, Classical.not_not] at hc0
    refine gc_skip ?_
    refine gk_then (hK10 _ _ ?_)
    refine gc_seq fun K13 hK13 => ?_
    simp only [arrCat_t hc0]
    refine gc_region ?_
    refine g_v (.free rfl) rfl rfl (qt_loadS (n := 5) rfl rfl Try.underlying29 rfl (by kernel_rfl) rfl) ?_
    refine g_v (.free rfl) rfl rfl (qt_move rfl rfl) ?_
    refine g_op (.free rfl) fun K15 hK15 => ?_
    refine go_callL rfl rfl rfl Try.func43 rfl (by decide) rfl (fun w M => gen_any w _ _ _ _ (rdC_mk ((mem_own1 (n := 1) M rfl).rd) ((mem_own1 (n := 2) M rfl).rd) ((mem_own1 (n := 3) M rfl).rd) (mem_rdU (n := 4) M rfl)) (arrErr_0 hc0).1.toShapeP (mem_rd M hu) (arrErr_0 hc0).2) ?_
    intro va14 vc14
    refine hK15 _ _ ?_
    refine g_v (.free rfl) rfl rfl (qt_assign rfl rfl) ?_
    refine g_v (.free rfl) rfl rfl (qt_assign rfl rfl) ?_
    refine g_nil ?_
    refine gk_then (hK13 _ _ ?_)
    refine gc_ret ?_
    refine ret_2 rfl rfl rfl  (fun w M => ?_)
    rw [gens_t hc0]
    exact ⟨_, rfl, mem_own1 (n := 6) M rfl, M.1⟩

set_option maxHeartbeats 1000000 in
set_option maxRecDepth 100000 in
theorem impl_IsSubcategory (w : World) (v : Value) (c : Cat) (u : Value) (xs : List Int) (h : RdC w v c) (hu : Rd w u xs) :
    Calls Try.prog 13 #[v, u] w (RetBI w (fIsSubcategory c xs).1 (fIsSubcategory c xs).2) := by
  have h0 := h
  obtain ⟨va, vb, vc, vd, ve, vf, vg, vh, rfl, h1, h2, h3, h4, _⟩ := h.lists
  obtain ⟨ua, uc, rfl⟩ := rd_form hu
  go_enter Try.func13, Try.ntmps13
  refine gc_enter (N := 20) rfl (look_cons (k := 0) rfl (look_cons (k := 1) rfl (look_nil _))) ?_
  refine gc_seq fun K1 hK1 => ?_
  refine gc_region ?_
  refine g_op (.free rfl) fun K3 hK3 => ?_
  refine go_box rfl rfl rfl rfl rfl ?_
  intro B2
  refine hK3 _ _ ?_
  refine g_v (.free rfl) rfl rfl (qt_assign rfl rfl) ?_
  refine g_v (.free rfl) rfl rfl (qt_assign rfl rfl) ?_
  refine g_nil ?_
  refine gk_then (hK1 _ _ ?_)
  refine gc_seq fun K4 hK4 => ?_
  refine gc_region ?_
  refine g_v (.free rfl) rfl rfl (qt_loadS (n := 0) rfl rfl Try.underlying29 rfl (by kernel_rfl) rfl) ?_
  refine g_v (.free rfl) rfl rfl (qt_move rfl rfl) ?_
  refine g_op (.free rfl) fun K6 hK6 => ?_
  refine go_callCI rfl rfl rfl Try.func40 rfl (by decide) rfl (fun w M => readArrows_any w _ _ _ _ (mem_rdC M h0) (mem_rd M hu)) ?_
  intro ca5 cb5 cc5 cd5 ce5 cf5 cg5 ch5 cu5
  refine hK6 _ _ ?_
  refine g_v (.free rfl) rfl rfl (qt_move rfl rfl) ?_
  refine g_v (.free rfl) rfl rfl (qt_extract rfl rfl rfl) ?_
  refine g_v (.free rfl) rfl rfl (qt_extract rfl rfl rfl) ?_
  refine g_op (.free rfl) fun K8 hK8 => ?_
  refine go_alloc (z := (.agg #[.int .i64 0, .slice none 0 0, .slice none 0 0, .slice none 0 0, .slice none 0 0])) (cs := [.int .i64 0, .slice none 0 0, .slice none 0 0, .slice none 0 0, .slice none 0 0]) rfl rfl rfl (fun w => by kernel_rfl) rfl ?_
  intro B7
  refine hK8 _ _ ?_
  refine g_op (.free rfl) fun K9 hK9 => ?_
  refine go_storeS (n := 5) rfl rfl rfl rfl (by kernel_rfl) rfl rfl rfl ?_
  refine hK9 _ _ ?_
  refine g_v (.free rfl) rfl rfl (qt_assign rfl rfl) ?_
  refine g_nil ?_
  refine gk_then (hK4 _ _ ?_)
  refine gc_seq fun K10 hK10 => ?_
  refine gc_seq fun K11 hK11 => ?_
  refine gc_region ?_
  refine g_v (.free rfl) rfl rfl (qt_move rfl rfl) ?_
  refine g_v (.free rfl) rfl rfl (qt_neq rfl rfl rfl) ?_
  refine g_nil ?_
  refine gk_then (hK11 _ _ ?_)
  refine gc_cond rfl (fun hc0 => ?_) (fun hc0 => ?_)
  · try simp only [decide_eq_true_eq, decide_eq_false_iff_not, Bool.not_eq_true', Bool.not_eq_false', Bool.not_eq_eq_eq_not, Bool.not_true, Bool.not_false, ne_eq, Decidable.not_not, Classical.not_not] at hc0
    refine gc_seq fun K12 hK12 => ?_
    refine gc_region ?_
    refine g_v (.free rfl) rfl rfl (qt_move rfl rfl) ?_
    refine g_v (.free rfl) rfl rfl (qt_assign rfl rfl) ?_
    refine g_v (.free rfl) rfl rfl (qt_assign rfl rfl) ?_
    refine g_nil ?_
    refine gk_then (hK12 _ _ ?_)
    refine gc_ret ?_
    refine gk_then_ret ?_
    refine ret_2 rfl rfl rfl  (fun w M => ?_)
    rw [isub_e hc0]; exact ⟨rfl, M.1⟩
  · try simp only [decide_eq_true_eq, decide_eq_false_iff_not, Bool.not_eq_true', Bool.not_eq_false', Bool.not_eq_eq_eq_not, Bool.not_true, Bool.not_false, ne_eq, Decidable.not_not, Classical.not_not] at hc0
    refine gc_skip ?_
    refine gk_then (hK10 _ _ ?_)
    refine gc_seq fun K13 hK13 => ?_
    simp only [arrCat_t hc0]
    refine gc_region ?_
    refine g_v (.free rfl) rfl rfl (qt_loadS (n := 5) rfl rfl Try.underlying29 rfl (by kernel_rfl) rfl) ?_
    refine g_v (.free rfl) rfl rfl (qt_move rfl rfl) ?_
    refine g_q (.free rfl) rfl rfl (qt_call rfl Try.func41 rfl (by decide) rfl (fun w M => isSub_any w _ _ _ _ (rdC_mk ((mem_own1 (n := 1) M rfl).rd) ((mem_own1 (n := 2) M rfl).rd) ((mem_own1 (n := 3) M rfl).rd) (mem_rdU (n := 4) M rfl)) (arrErr_0 hc0).1.toShapeP (mem_rd M hu) (arrErr_0 hc0).2)) ?_
    refine g_v (.free rfl) rfl rfl (qt_assign rfl rfl) ?_
    refine g_v (.free rfl) rfl rfl (qt_assign rfl rfl) ?_
    refine g_nil ?_
    refine gk_then (hK13 _ _ ?_)
    refine gc_ret ?_
    refine ret_2 rfl rfl rfl  (fun w M => ?_)
    rw [isub_t hc0]
    rw [show decide (xs = genL c xs c.s.length) = decide (genL c xs c.s.length = xs) from decide_eq_decide.2 eq_comm]
    exact ⟨rfl, M.1⟩

set_option maxHeartbeats 1000000 in
set_option maxRecDepth 100000 in
theorem impl_SubcategoryOf (w : World) (v : Value) (c : Cat) (u : Value) (xs : List Int) (h : RdC w v c) (hu : Rd w u xs) :
    Calls Try.prog 22 #[v, u] w (RetCI w (fSubcategoryOf c xs).1 (fSubcategoryOf c xs).2) := by
  have h0 := h
  obtain ⟨va, vb, vc, vd, ve, vf, vg, vh, rfl, h1, h2, h3, h4, _⟩ := h.lists
  obtain ⟨ua, uc, rfl⟩ := rd_form hu
  go_enter Try.func22, Try.ntmps22
  refine gc_enter (N := 26) rfl (look_cons (k := 0) rfl (look_cons (k := 1) rfl (look_nil _))) ?_
  refine gc_seq fun K1 hK1 => ?_
  refine gc_region ?_
  refine g_op (.free rfl) fun K3 hK3 => ?_
  refine go_box rfl rfl rfl rfl rfl ?_
  intro B2
  refine hK3 _ _ ?_
  refine g_op (.free rfl) fun K5 hK5 => ?_
  refine go_alloc (z := (.agg #[.int .i64 0, .slice none 0 0, .slice none 0 0, .slice none 0 0, .slice none 0 0])) (cs := [.int .i64 0, .slice none 0 0, .slice none 0 0, .slice none 0 0, .slice none 0 0]) rfl rfl rfl (fun w => by kernel_rfl) rfl ?_
  intro B4
  refine hK5 _ _ ?_
  refine g_v (.free rfl) rfl rfl (qt_assign rfl rfl) ?_
  refine g_nil ?_
  refine gk_then (hK1 _ _ ?_)
  refine gc_seq fun K6 hK6 => ?_
  refine gc_region ?_
  refine g_v (.free rfl) rfl rfl (qt_loadS (n := 0) rfl rfl Try.underlying29 rfl (by kernel_rfl) rfl) ?_
  refine g_v (.free rfl) rfl rfl (qt_move rfl rfl) ?_
  refine g_op (.free rfl) fun K8 hK8 => ?_
  refine go_callCI rfl rfl rfl Try.func40 rfl (by decide) rfl (fun w M => readArrows_any w _ _ _ _ (mem_rdC M h0) (mem_rd M hu)) ?_
  intro ca7 cb7 cc7 cd7 ce7 cf7 cg7 ch7 cu7
  refine hK8 _ _ ?_
  refine g_v (.free rfl) rfl rfl (qt_move rfl rfl) ?_
  refine g_v (.free rfl) rfl rfl (qt_extract rfl rfl rfl) ?_
  refine g_v (.free rfl) rfl rfl (qt_extract rfl rfl rfl) ?_
  refine g_op (.free rfl) fun K10 hK10 => ?_
  refine go_alloc (z := (.agg #[.int .i64 0, .slice none 0 0, .slice none 0 0, .slice none 0 0, .slice none 0 0])) (cs := [.int .i64 0, .slice none 0 0, .slice none 0 0, .slice none 0 0, .slice none 0 0]) rfl rfl rfl (fun w => by kernel_rfl) rfl ?_
  intro B9
  refine hK10 _ _ ?_
  refine g_op (.free rfl) fun K11 hK11 => ?_
  refine go_storeS (n := 6) rfl rfl rfl rfl (by kernel_rfl) rfl rfl rfl ?_
  refine hK11 _ _ ?_
  refine g_v (.free rfl) rfl rfl (qt_assign rfl rfl) ?_
  refine g_nil ?_
  refine gk_then (hK6 _ _ ?_)
  refine gc_seq fun K12 hK12 => ?_
  refine gc_seq fun K13 hK13 => ?_
  refine gc_region ?_
  refine g_v (.free rfl) rfl rfl (qt_move rfl rfl) ?_
  refine g_v (.free rfl) rfl rfl (qt_neq rfl rfl rfl) ?_
  refine g_nil ?_
  refine gk_then (hK13 _ _ ?_)
  refine gc_cond rfl (fun hc0 => ?_) (fun hc0 => ?_)
  · try simp only [decide_eq_true_eq, decide_eq_false_iff_not, Bool.not_eq_true', Bool.not_eq_false', Bool.not_eq_eq_eq_not, Bool.not_true, Bool.not_false, ne_eq, Decidable.not_not, Classical.not_not] at hc0
    refine gc_seq fun K14 hK14 => ?_
    refine gc_region ?_
    refine g_v (.free rfl) rfl rfl (qt_build rfl rfl bt0_Category) ?_
    refine g_v (.free rfl) rfl rfl (qt_move rfl rfl) ?_
    refine g_op (.free rfl) fun K15 hK15 => ?_
    refine go_storeS (n := 1) rfl rfl rfl rfl (by kernel_rfl) rfl rfl rfl ?_
    refine hK15 _ _ ?_
    refine g_v (.free rfl) rfl rfl (qt_assign rfl rfl) ?_
    refine g_nil ?_
    refine gk_then (hK14 _ _ ?_)
    refine gc_ret ?_
    refine gk_then_ret ?_
    refine ret_SI (n := 1) rfl rfl rfl Try.underlying29 rfl (by kernel_rfl) rfl (fun w M => ?_)
    rw [sub_e hc0]; exact ⟨_, rfl, ownC_zero _ _, M.1⟩
  · try simp only [decide_eq_true_eq, decide_eq_false_iff_not, Bool.not_eq_true', Bool.not_eq_false', Bool.not_eq_eq_eq_not, Bool.not_true, Bool.not_false, ne_eq, Decidable.not_not, Classical.not_not] at hc0
    refine gc_skip ?_
    refine gk_then (hK12 _ _ ?_)
    refine gc_seq fun K16 hK16 => ?_
    refine gc_seq fun K17 hK17 => ?_
    simp only [arrCat_t hc0]
    refine gc_region ?_
    refine g_v (.free rfl) rfl rfl (qt_loadS (n := 6) rfl rfl Try.underlying29 rfl (by kernel_rfl) rfl) ?_
    refine g_v (.free rfl) rfl rfl (qt_move rfl rfl) ?_
    refine g_q (.free rfl) rfl rfl (qt_call rfl Try.func41 rfl (by decide) rfl (fun w M => isSub_any w _ _ _ _ (rdC_mk ((mem_own1 (n := 2) M rfl).rd) ((mem_own1 (n := 3) M rfl).rd) ((mem_own1 (n := 4) M rfl).rd) (mem_rdU (n := 5) M rfl)) (arrErr_0 hc0).1.toShapeP (mem_rd M hu) (arrErr_0 hc0).2)) ?_
    refine g_v (.free rfl) rfl rfl (qt_not rfl rfl) ?_
    refine g_nil ?_
    refine gk_then (hK17 _ _ ?_)
    refine gc_cond rfl (fun hc1 => ?_) (fun hc1 => ?_)
    · try simp only [decide_eq_true_eq, decide_eq_false_iff_not, Bool.not_eq_true', Bool.not_eq_false', Bool.not_eq_eq_eq_not, Bool.not_true, Bool.not_false, ne_eq, Decidable.not_not, Classical.not_not] at hc1
      refine gc_seq fun K18 hK18 => ?_
      refine gc_region ?_
      refine g_v (.free rfl) rfl rfl (qt_build rfl rfl bt0_Category) ?_
      refine g_op (.free rfl) fun K19 hK19 => ?_
      refine go_storeS (n := 1) rfl rfl rfl rfl (by kernel_rfl) rfl rfl rfl ?_
      refine hK19 _ _ ?_
      refine g_v (.free rfl) rfl rfl (qt_assign rfl rfl) ?_
      refine g_nil ?_
      refine gk_then (hK18 _ _ ?_)
      refine gc_ret ?_
      refine gk_then_ret ?_
      refine ret_SI (n := 1) rfl rfl rfl Try.underlying29 rfl (by kernel_rfl) rfl (fun w M => ?_)
      rw [sub_n hc0 fun h => hc1 h.symm]; exact ⟨_, rfl, ownC_zero _ _, M.1⟩
    · try simp only [decide_eq_true_eq, decide_eq_false_iff_not, Bool.not_eq_true', Bool.not_eq_false', Bool.not_eq_eq_eq_not, Bool.not_true, Bool.not_false, ne_eq, Decidable.not_not, Classical.not_not] at hc1
      refine gc_skip ?_
      refine gk_then (hK16 _ _ ?_)
      refine gc_seq fun K20 hK20 => ?_
      have hxe : xs = genL c xs c.s.length := hc1.symm
      have hl40 := gen_len40 (arrErr_0 hc0).1.toShapeP hxe
      refine gc_region ?_
      refine g_v (.free rfl) rfl rfl (qt_loadS (n := 6) rfl rfl Try.underlying29 rfl (by kernel_rfl) rfl) ?_
      refine g_v (.free rfl) rfl rfl (qt_move rfl rfl) ?_
      refine g_op (.free rfl) fun K22 hK22 => ?_
      refine go_callC rfl rfl rfl Try.func46 rfl (by decide) rfl (fun w M => restricted_any w _ _ _ _ (rdC_mk ((mem_own1 (n := 2) M rfl).rd) ((mem_own1 (n := 3) M rfl).rd) ((mem_own1 (n := 4) M rfl).rd) (mem_rdU (n := 5) M rfl)) (arrErr_0 hc0).1.toShapeP (mem_rd M hu) (arrErr_0 hc0).2 (hl40)) ?_
      intro ca21 cb21 cc21 cd21 ce21 cf21 cg21 ch21 cu21
      refine hK22 _ _ ?_
      refine g_op (.free rfl) fun K23 hK23 => ?_
      refine go_storeS (n := 1) rfl rfl rfl rfl (by kernel_rfl) rfl rfl rfl ?_
      refine hK23 _ _ ?_
      refine g_v (.free rfl) rfl rfl (qt_assign rfl rfl) ?_
      refine g_nil ?_
      refine gk_then (hK20 _ _ ?_)
      refine gc_ret ?_
      refine ret_SI (n := 1) rfl rfl rfl Try.underlying29 rfl (by kernel_rfl) rfl (fun w M => ?_)
      rw [sub_t hc0 hxe]; exact ⟨_, rfl, ownC_star (mem_pick (n := 10) (mem_pick (n := 10) (mem_pick (n := 10) (mem_pick (n := 10) (M) rfl) rfl) rfl) rfl).2, M.1⟩

set_option maxHeartbeats 1000000 in
set_option maxRecDepth 100000 in
theorem spec_SubcategoryOf (w : World) (v : Value) (c : Cat) (u : Value) (xs : List Int) (h : RdC w v c) (hu : Rd w u xs) :
    Calls Try.prog 21 #[v, u] w (RetCI w (fSubcategoryOf c xs).1 (fSubcategoryOf c xs).2) := by
  have h0 := h
  obtain ⟨va, vb, vc, vd, ve, vf, vg, vh, rfl, h1, h2, h3, h4, _⟩ := h.lists
  obtain ⟨ua, uc, rfl⟩ := rd_form hu
  go_enter Try.func21, Try.ntmps21
  refine gc_enter (N := 24) rfl (look_cons (k := 0) rfl (look_cons (k := 1) rfl (look_nil _))) ?_
  refine gc_seq fun K1 hK1 => ?_
  refine gc_region ?_
  refine g_op (.free rfl) fun K3 hK3 => ?_
  refine go_box rfl rfl rfl rfl rfl ?_
  intro B2
  refine hK3 _ _ ?_
  refine g_op (.free rfl) fun K5 hK5 => ?_
  refine go_alloc (z := (.agg #[.int .i64 0, .slice none 0 0, .slice none 0 0, .slice none 0 0, .slice none 0 0])) (cs := [.int .i64 0, .slice none 0 0, .slice none 0 0, .slice none 0 0, .slice none 0 0]) rfl rfl rfl (fun w => by kernel_rfl) rfl ?_
  intro B4
  refine hK5 _ _ ?_
  refine g_v (.free rfl) rfl rfl (qt_assign rfl rfl) ?_
  refine g_nil ?_
  refine gk_then (hK1 _ _ ?_)
  refine gc_seq fun K6 hK6 => ?_
  refine gc_seq fun K7 hK7 => ?_
  refine gc_region ?_
  refine g_v (.free rfl) rfl rfl (qt_loadS (n := 0) rfl rfl Try.underlying29 rfl (by kernel_rfl) rfl) ?_
  refine g_v (.free rfl) rfl rfl (qt_move rfl rfl) ?_
  refine g_q (.free rfl) rfl rfl (qt_call rfl Try.func36 rfl (by decide) rfl (fun w M => specarr_any w _ _ _ _ (mem_rdC M h0) (mem_rd M hu))) ?_
  refine g_v (.free rfl) rfl rfl (qt_assign rfl rfl) ?_
  refine g_nil ?_
  refine gk_then (hK7 _ _ ?_)
  refine gc_seq fun K8 hK8 => ?_
  refine gc_region ?_
  refine g_v (.free rfl) rfl rfl (qt_move rfl rfl) ?_
  refine g_v (.free rfl) rfl rfl (qt_neq rfl rfl rfl) ?_
  refine g_nil ?_
  refine gk_then (hK8 _ _ ?_)
  refine gc_cond rfl (fun hc0 => ?_) (fun hc0 => ?_)
  · try simp only [decide_eq_true_eq, decide_eq_false_iff_not, Bool.not_eq_true', Bool.not_eq_false', Bool.not_eq_eq_eq_not, Bool.not_true, Bool.not_false, ne_eq, Decidable.not_not, Classical.not_not] at hc0
    refine gc_seq fun K9 hK9 => ?_
    refine gc_region ?_
    refine g_v (.free rfl) rfl rfl (qt_build rfl rfl bt0_Category) ?_
    refine g_v (.free rfl) rfl rfl (qt_move rfl rfl) ?_
    refine g_op (.free rfl) fun K10 hK10 => ?_
    refine go_storeS (n := 1) rfl rfl rfl rfl (by kernel_rfl) rfl rfl rfl ?_
    refine hK10 _ _ ?_
    refine g_v (.free rfl) rfl rfl (qt_assign rfl rfl) ?_
    refine g_nil ?_
    refine gk_then (hK9 _ _ ?_)
    refine gc_ret ?_
    refine gk_then_ret ?_
    refine ret_SI (n := 1) rfl rfl rfl Try.underlying29 rfl (by kernel_rfl) rfl (fun w M => ?_)
    rw [sub_e hc0]; exact ⟨_, rfl, ownC_zero _ _, M.1⟩
  · try simp only [decide_eq_true_eq, decide_eq_false_iff_not, Bool.not_eq_true', Bool.not_eq_false', Bool.not_eq_eq_eq_not, Bool.not_true, Bool.not_false, ne_eq, Decidable.not_not, Classical.not_not] at hc0
    refine gc_skip ?_
    refine gk_then (hK6 _ _ ?_)
    refine gc_seq fun K11 hK11 => ?_
    refine gc_seq fun K12 hK12 => ?_
    refine gc_region ?_
    refine g_v (.free rfl) rfl rfl (qt_move rfl rfl) ?_
    refine g_v (.free rfl) rfl rfl (qt_loadS (n := 0) rfl rfl Try.underlying29 rfl (by kernel_rfl) rfl) ?_
    refine g_v (.free rfl) rfl rfl (qt_move rfl rfl) ?_
    refine g_op (.free rfl) fun K14 hK14 => ?_
    refine go_callL rfl rfl rfl Try.func38 rfl (by decide) rfl (fun w M => specClose_any w _ _ _ _ (mem_rdC M h0) (arrErr_0 hc0).1.toShapeP (mem_rd M hu) (arrErr_0 hc0).2) ?_
    intro va13 vc13
    refine hK14 _ _ ?_
    refine g_q (.free rfl) rfl rfl (qt_call rfl Try.func37 rfl (by decide) rfl (fun w M => specSame_any w _ _ _ _ (mem_rd M hu) ((mem_own1 (n := 2) M rfl).rd))) ?_
    refine g_v (.free rfl) rfl rfl (qt_not rfl rfl) ?_
    refine g_nil ?_
    refine gk_then (hK12 _ _ ?_)
    refine gc_cond rfl (fun hc1 => ?_) (fun hc1 => ?_)
    · try simp only [decide_eq_true_eq, decide_eq_false_iff_not, Bool.not_eq_true', Bool.not_eq_false', Bool.not_eq_eq_eq_not, Bool.not_true, Bool.not_false, ne_eq, Decidable.not_not, Classical.not_not] at hc1
      refine gc_seq fun K15 hK15 => ?_
      refine gc_region ?_
      refine g_v (.free rfl) rfl rfl (qt_build rfl rfl bt0_Category) ?_
      refine g_op (.free rfl) fun K16 hK16 => ?_
      refine go_storeS (n := 1) rfl rfl rfl rfl (by kernel_rfl) rfl rfl rfl ?_
      refine hK16 _ _ ?_
      refine g_v (.free rfl) rfl rfl (qt_assign rfl rfl) ?_
      refine g_nil ?_
      refine gk_then (hK15 _ _ ?_)
      refine gc_ret ?_
      refine gk_then_ret ?_
      refine ret_SI (n := 1) rfl rfl rfl Try.underlying29 rfl (by kernel_rfl) rfl (fun w M => ?_)
      rw [sub_n hc0 hc1]; exact ⟨_, rfl, ownC_zero _ _, M.1⟩
    · try simp only [decide_eq_true_eq, decide_eq_false_iff_not, Bool.not_eq_true', Bool.not_eq_false', Bool.not_eq_eq_eq_not, Bool.not_true, Bool.not_false, ne_eq, Decidable.not_not, Classical.not_not] at hc1
      refine gc_skip ?_
      refine gk_then (hK11 _ _ ?_)
      refine gc_seq fun K17 hK17 => ?_
      have hxe : xs = genL c xs c.s.length := hc1
      have hl40 := gen_len40 (arrErr_0 hc0).1.toShapeP hxe
      refine gc_region ?_
      refine g_v (.free rfl) rfl rfl (qt_loadS (n := 0) rfl rfl Try.underlying29 rfl (by kernel_rfl) rfl) ?_
      refine g_v (.free rfl) rfl rfl (qt_move rfl rfl) ?_
      refine g_op (.free rfl) fun K19 hK19 => ?_
      refine go_callC rfl rfl rfl Try.func45 rfl (by decide) rfl (fun w M => specPart_any w _ _ _ _ (mem_rdC M h0) (arrErr_0 hc0).1.toShapeP (mem_rd M hu) (arrErr_0 hc0).2 (hl40)) ?_
      intro ca18 cb18 cc18 cd18 ce18 cf18 cg18 ch18 cu18
      refine hK19 _ _ ?_
      refine g_op (.free rfl) fun K20 hK20 => ?_
      refine go_storeS (n := 1) rfl rfl rfl rfl (by kernel_rfl) rfl rfl rfl ?_
      refine hK20 _ _ ?_
      refine g_v (.free rfl) rfl rfl (qt_assign rfl rfl) ?_
      refine g_nil ?_
      refine gk_then (hK17 _ _ ?_)
      refine gc_ret ?_
      refine ret_SI (n := 1) rfl rfl rfl Try.underlying29 rfl (by kernel_rfl) rfl (fun w M => ?_)
      rw [sub_t hc0 hxe]; exact ⟨_, rfl, ownC_star (mem_pick (n := 6) (mem_pick (n := 6) (mem_pick (n := 6) (mem_pick (n := 6) (M) rfl) rfl) rfl) rfl).2, M.1⟩


theorem bound_SubcategoryOf (c : Cat) (xs : List Int) : mzC (fSubcategoryOf c xs).1 ≤ 1152921504606846 := by
  by_cases h : arrErr c xs = 0
  · by_cases h' : xs = genL c xs c.s.length
    · rw [sub_t h h']; exact part_small (arrErr_0 h).1.toShapeP (gen_len40 (arrErr_0 h).1.toShapeP h')
    · rw [sub_n h h']; decide
  · rw [sub_e h]; show mzC cat0 ≤ _; decide

end Go.Proofs.Ytelbjdbefaffpaa
