
/- The functor from a sum that two functors make: both sides. -/
import Derived.Test.YtpppoipaabofgabFunM
import Derived.Test.YtpppoipaabofgabFunL
import Derived.Test.YtpppoipaabofgabSumI
import Derived.Test.YtpppoipaabofgabThF
import Derived.Test.YtpppoipaabofgabConc
set_option linter.unusedSimpArgs false
set_option linter.unusedVariables false
set_option linter.unusedSectionVars false
namespace Go.Proofs.Ytpppoipaabofgab
open Go.RowKit


noncomputable def coFct (F G : Fct) : Fct := ⟨sumM F.S G.S, F.T, F.o ++ G.o, F.a ++ G.a⟩
noncomputable def fCopairFunctors (F G : Fct) : Fct × Int := if twoFE F G = 0 then (if bP (F.T = G.T) = true then (if bP (FitP (sumM F.S G.S)) = true then (coFct F G, 0) else (fct0, 3)) else (fct0, 5)) else (fct0, 1)
theorem cof_t {F G : Fct} (h : twoFE F G = 0) (hs : F.T = G.T) (h' : FitP (sumM F.S G.S)) : fCopairFunctors F G = (coFct F G, 0) := by unfold fCopairFunctors; rw [if_pos h, if_pos (bP_t hs), if_pos (bP_t h')]
theorem cof_l {F G : Fct} (h : twoFE F G = 0) (hs : F.T = G.T) (h' : ¬ FitP (sumM F.S G.S)) : fCopairFunctors F G = (fct0, 3) := by unfold fCopairFunctors; rw [if_pos h, if_pos (bP_t hs), if_neg (by rw [bP_f h']; decide)]
theorem cof_s {F G : Fct} (h : twoFE F G = 0) (hs : ¬ F.T = G.T) : fCopairFunctors F G = (fct0, 5) := by unfold fCopairFunctors; rw [if_pos h, if_neg (by rw [bP_f hs]; decide)]
theorem cof_f {F G : Fct} (h : ¬ twoFE F G = 0) : fCopairFunctors F G = (fct0, 1) := if_neg h
theorem cs_0 {c d : Cat} (hc : fIsCategory c = true) (hd : fIsCategory d = true) (h : (fSumCategory c d).2 = 0) : FitP (sumM c d) := Classical.byContradiction fun hn => by
  rw [sum_l hc hd hn] at h; exact absurd h (by decide)
theorem cs_3 {c d : Cat} (hc : fIsCategory c = true) (hd : fIsCategory d = true) (h : ¬ (fSumCategory c d).2 = 0) : ¬ FitP (sumM c d) ∧ (fSumCategory c d).2 = 3 := by
  have hn : ¬ FitP (sumM c d) := fun hf => h (by rw [sum_t hc hd hf])
  exact ⟨hn, by rw [sum_l hc hd hn]⟩
theorem bound_CopairFunctors (F G : Fct) : mzF (fCopairFunctors F G).1 ≤ 3500000000000000 := by
  by_cases h : twoFE F G = 0
  · by_cases hs : F.T = G.T
    · by_cases h' : FitP (sumM F.S G.S)
      · have hh := twoFE_0 h
        have h1 := isf_lens hh.1; have h2 := isf_lens hh.2
        have h3 : mzC (sumM F.S G.S) ≤ 1152921504606846 := by have := bound_SumCategory F.S G.S; rwa [sum_t (isf_of hh.1).cs (isf_of hh.2).cs h'] at this
        rw [cof_t h hs h']
        show mzC (sumM F.S G.S) + mzC F.T + (F.o ++ G.o).length + (F.a ++ G.a).length ≤ _
        rw [List.length_append, List.length_append]; omega
      · rw [cof_l h hs h']; decide
    · rw [cof_s h hs]; decide
  · rw [cof_f h]; decide

set_option maxHeartbeats 4000000 in
set_option maxRecDepth 100000 in
theorem impl_CopairFunctors (w : World) (v : Value) (F : Fct) (u : Value) (G : Fct) (h : RdF w v F) (e : RdF w u G) :
    Calls Try.prog 10 #[v, u] w (RetFI w (fCopairFunctors F G).1 (fCopairFunctors F G).2) := by
  have h0 := h
  obtain ⟨vx1, vx2, vx3, vx4, vx5, vx6, vx7, vx8, vx9, vx10, vk1, vk2, vk3, vk4, vk5, vk6, vk7, vk8, vk9, vk10, rfl, h1, h2, h3, h4, h5, h6, h7, h8, h9, h10⟩ := h.lists
  have e0 := e
  obtain ⟨ux1, ux2, ux3, ux4, ux5, ux6, ux7, ux8, ux9, ux10, uk1, uk2, uk3, uk4, uk5, uk6, uk7, uk8, uk9, uk10, rfl, e1, e2, e3, e4, e5, e6, e7, e8, e9, e10⟩ := e.lists
  go_enter Try.func10, Try.ntmps10
  refine gc_enter (N := 60) rfl (look_cons (k := 0) rfl (look_cons (k := 1) rfl (look_nil _))) ?_
  refine gc_seq fun K1 hK1 => ?_
  refine gc_region ?_
  refine g_op (.free rfl) fun K3 hK3 => ?_
  refine go_box rfl rfl rfl rfl rfl ?_
  intro B2
  refine hK3 _ _ ?_
  refine g_op (.free rfl) fun K5 hK5 => ?_
  refine go_box rfl rfl rfl rfl rfl ?_
  intro B4
  refine hK5 _ _ ?_
  refine g_op (.free rfl) fun K7 hK7 => ?_
  refine go_alloc (z := (.agg #[.int .i64 0, .slice none 0 0, .slice none 0 0, .slice none 0 0, .slice none 0 0, .int .i64 0, .slice none 0 0, .slice none 0 0, .slice none 0 0, .slice none 0 0, .slice none 0 0, .slice none 0 0])) (cs := [.int .i64 0, .slice none 0 0, .slice none 0 0, .slice none 0 0, .slice none 0 0, .int .i64 0, .slice none 0 0, .slice none 0 0, .slice none 0 0, .slice none 0 0, .slice none 0 0, .slice none 0 0]) rfl rfl rfl (fun w => by kernel_rfl) rfl ?_
  intro B6
  refine hK7 _ _ ?_
  refine g_v (.free rfl) rfl rfl (qt_assign rfl rfl) ?_
  refine g_nil ?_
  refine gk_then (hK1 _ _ ?_)
  refine gc_seq fun K8 hK8 => ?_
  refine gc_region ?_
  refine g_v (.free rfl) rfl rfl (qt_loadS (n := 0) rfl rfl Try.underlying31 rfl (by kernel_rfl) rfl) ?_
  refine g_v (.free rfl) rfl rfl (qt_loadS (n := 1) rfl rfl Try.underlying31 rfl (by kernel_rfl) rfl) ?_
  refine g_op (.free rfl) fun K10 hK10 => ?_
  refine go_callFFI rfl rfl rfl Try.func45 rfl (by decide) rfl (fun w M => readFunctors_any w _ _ (mem_rdF M h0) _ _ (mem_rdF M e0)) ?_
  intro fx1_9 fk1_9 fx2_9 fk2_9 fx3_9 fk3_9 fx4_9 fk4_9 fx5_9 fk5_9 fx6_9 fk6_9 fx7_9 fk7_9 fx8_9 fk8_9 fx9_9 fk9_9 fx10_9 fk10_9 us9 ut9 gy1_9 gj1_9 gy2_9 gj2_9 gy3_9 gj3_9 gy4_9 gj4_9 gy5_9 gj5_9 gy6_9 gj6_9 gy7_9 gj7_9 gy8_9 gj8_9 gy9_9 gj9_9 gy10_9 gj10_9 vs9 vt9
  refine hK10 _ _ ?_
  refine g_v (.free rfl) rfl rfl (qt_move rfl rfl) ?_
  refine g_v (.free rfl) rfl rfl (qt_extract rfl rfl rfl) ?_
  refine g_v (.free rfl) rfl rfl (qt_extract rfl rfl rfl) ?_
  refine g_v (.free rfl) rfl rfl (qt_extract rfl rfl rfl) ?_
  refine g_op (.free rfl) fun K12 hK12 => ?_
  refine go_alloc (z := (.agg #[.int .i64 0, .slice none 0 0, .slice none 0 0, .slice none 0 0, .slice none 0 0, .int .i64 0, .slice none 0 0, .slice none 0 0, .slice none 0 0, .slice none 0 0, .slice none 0 0, .slice none 0 0])) (cs := [.int .i64 0, .slice none 0 0, .slice none 0 0, .slice none 0 0, .slice none 0 0, .int .i64 0, .slice none 0 0, .slice none 0 0, .slice none 0 0, .slice none 0 0, .slice none 0 0, .slice none 0 0]) rfl rfl rfl (fun w => by kernel_rfl) rfl ?_
  intro B11
  refine hK12 _ _ ?_
  refine g_op (.free rfl) fun K14 hK14 => ?_
  refine go_alloc (z := (.agg #[.int .i64 0, .slice none 0 0, .slice none 0 0, .slice none 0 0, .slice none 0 0, .int .i64 0, .slice none 0 0, .slice none 0 0, .slice none 0 0, .slice none 0 0, .slice none 0 0, .slice none 0 0])) (cs := [.int .i64 0, .slice none 0 0, .slice none 0 0, .slice none 0 0, .slice none 0 0, .int .i64 0, .slice none 0 0, .slice none 0 0, .slice none 0 0, .slice none 0 0, .slice none 0 0, .slice none 0 0]) rfl rfl rfl (fun w => by kernel_rfl) rfl ?_
  intro B13
  refine hK14 _ _ ?_
  refine g_op (.free rfl) fun K15 hK15 => ?_
  refine go_storeS (n := 23) rfl rfl rfl rfl (by kernel_rfl) rfl rfl rfl ?_
  refine hK15 _ _ ?_
  refine g_op (.free rfl) fun K16 hK16 => ?_
  refine go_storeS (n := 24) rfl rfl rfl rfl (by kernel_rfl) rfl rfl rfl ?_
  refine hK16 _ _ ?_
  refine g_v (.free rfl) rfl rfl (qt_assign rfl rfl) ?_
  refine g_nil ?_
  refine gk_then (hK8 _ _ ?_)
  refine gc_seq fun K17 hK17 => ?_
  refine gc_seq fun K18 hK18 => ?_
  refine gc_region ?_
  refine g_v (.free rfl) rfl rfl (qt_move rfl rfl) ?_
  refine g_v (.free rfl) rfl rfl (qt_neq rfl rfl rfl) ?_
  refine g_nil ?_
  refine gk_then (hK18 _ _ ?_)
  refine gc_cond rfl (fun hc0 => ?_) (fun hc0 => ?_)
  · try simp only [decide_eq_true_eq, decide_eq_false_iff_not, Bool.not_eq_true', Bool.not_eq_false', Bool.not_eq_eq_eq_not, Bool.not_true, Bool.not_false, ne_eq, Decidable.not_not, Classical.not_not] at hc0
    refine gc_seq fun K19 hK19 => ?_
    refine gc_region ?_
    refine g_v (.free rfl) rfl rfl (qt_build rfl rfl bt0_Functor) ?_
    refine g_v (.free rfl) rfl rfl (qt_move rfl rfl) ?_
    refine g_op (.free rfl) fun K20 hK20 => ?_
    refine go_storeS (n := 2) rfl rfl rfl rfl (by kernel_rfl) rfl rfl rfl ?_
    refine hK20 _ _ ?_
    refine g_v (.free rfl) rfl rfl (qt_assign rfl rfl) ?_
    refine g_nil ?_
    refine gk_then (hK19 _ _ ?_)
    refine gc_ret ?_
    refine gk_then_ret ?_
    refine ret_SI (n := 2) rfl rfl rfl Try.underlying31 rfl (by kernel_rfl) rfl (fun w M => ?_)
    rw [(twoFE_n hc0).2, cof_f hc0]; exact retFI_zero M.1
  · try simp only [decide_eq_true_eq, decide_eq_false_iff_not, Bool.not_eq_true', Bool.not_eq_false', Bool.not_eq_eq_eq_not, Bool.not_true, Bool.not_false, ne_eq, Decidable.not_not, Classical.not_not] at hc0
    refine gc_skip ?_
    refine gk_then (hK17 _ _ ?_)
    refine gc_seq fun K21 hK21 => ?_
    refine gc_seq fun K22 hK22 => ?_
    have hh := twoFE_0 hc0
    have hF := isf_of hh.1; have hG := isf_of hh.2
    have l1 := isf_lens hh.1; have l2 := isf_lens hh.2
    have o1 := l1.1; have o2 := l2.1; have a1 := l1.2.1; have a2 := l2.2.1
    have hQ := twoF_c hc0
    simp only [hQ.1, hQ.2]
    refine gc_region ?_
    refine g_v (.free rfl) rfl rfl (qt_field (z := 4) (off := 5) rfl rfl Try.underlying31 rfl (by kernel_rfl) rfl) ?_
    refine g_v (.free rfl) rfl rfl (qt_loadP (n := 23) (z := 5) rfl rfl Try.underlying29 rfl (by kernel_rfl) rfl (by first | decide | exact Nat.le_refl _ | simp)) ?_
    refine g_v (.free rfl) rfl rfl (qt_field (z := 4) (off := 5) rfl rfl Try.underlying31 rfl (by kernel_rfl) rfl) ?_
    refine g_v (.free rfl) rfl rfl (qt_loadP (n := 24) (z := 5) rfl rfl Try.underlying29 rfl (by kernel_rfl) rfl (by first | decide | exact Nat.le_refl _ | simp)) ?_
    refine g_q (.free rfl) rfl rfl (qt_call rfl Try.func46 rfl (by decide) rfl (fun w M => equals_any w _ _ (rdC_mk ((mem_own1 (n := 7) M rfl).rd) ((mem_own1 (n := 8) M rfl).rd) ((mem_own1 (n := 9) M rfl).rd) (mem_rdU (n := 10) M rfl)) _ _ (rdC_mk ((mem_own1 (n := 17) M rfl).rd) ((mem_own1 (n := 18) M rfl).rd) ((mem_own1 (n := 19) M rfl).rd) (mem_rdU (n := 20) M rfl)))) ?_
    refine g_v (.free rfl) rfl rfl (qt_not rfl rfl) ?_
    refine g_nil ?_
    refine gk_then (hK22 _ _ ?_)
    refine gc_cond rfl (fun hc1 => ?_) (fun hc1 => ?_)
    · try simp only [decide_eq_true_eq, decide_eq_false_iff_not, Bool.not_eq_true', Bool.not_eq_false', Bool.not_eq_eq_eq_not, Bool.not_true, Bool.not_false, ne_eq, Decidable.not_not, Classical.not_not] at hc1
      refine gc_seq fun K23 hK23 => ?_
      refine gc_region ?_
      refine g_v (.free rfl) rfl rfl (qt_build rfl rfl bt0_Functor) ?_
      refine g_op (.free rfl) fun K24 hK24 => ?_
      refine go_storeS (n := 2) rfl rfl rfl rfl (by kernel_rfl) rfl rfl rfl ?_
      refine hK24 _ _ ?_
      refine g_v (.free rfl) rfl rfl (qt_assign rfl rfl) ?_
      refine g_nil ?_
      refine gk_then (hK23 _ _ ?_)
      refine gc_ret ?_
      refine gk_then_ret ?_
      refine ret_SI (n := 2) rfl rfl rfl Try.underlying31 rfl (by kernel_rfl) rfl (fun w M => ?_)
      rw [cof_s hc0 (bP_f' hc1)]; exact retFI_zero M.1
    · try simp only [decide_eq_true_eq, decide_eq_false_iff_not, Bool.not_eq_true', Bool.not_eq_false', Bool.not_eq_eq_eq_not, Bool.not_true, Bool.not_false, ne_eq, Decidable.not_not, Classical.not_not] at hc1
      refine gc_skip ?_
      refine gk_then (hK21 _ _ ?_)
      refine gc_seq fun K25 hK25 => ?_
      refine gc_region ?_
      refine g_v (.free rfl) rfl rfl (qt_field (z := 4) (off := 0) rfl rfl Try.underlying31 rfl (by kernel_rfl) rfl) ?_
      refine g_v (.free rfl) rfl rfl (qt_loadP (n := 23) (z := 5) rfl rfl Try.underlying29 rfl (by kernel_rfl) rfl (by first | decide | exact Nat.le_refl _ | simp)) ?_
      refine g_v (.free rfl) rfl rfl (qt_field (z := 4) (off := 0) rfl rfl Try.underlying31 rfl (by kernel_rfl) rfl) ?_
      refine g_v (.free rfl) rfl rfl (qt_loadP (n := 24) (z := 5) rfl rfl Try.underlying29 rfl (by kernel_rfl) rfl (by first | decide | exact Nat.le_refl _ | simp)) ?_
      refine g_op (.free rfl) fun K27 hK27 => ?_
      refine go_callCI rfl rfl rfl Try.func47 rfl (by decide) rfl (fun w M => impl_SumCategory w _ _ _ _ (rdC_mk ((mem_own1 (n := 3) M rfl).rd) ((mem_own1 (n := 4) M rfl).rd) ((mem_own1 (n := 5) M rfl).rd) (mem_rdU (n := 6) M rfl)) (rdC_mk ((mem_own1 (n := 13) M rfl).rd) ((mem_own1 (n := 14) M rfl).rd) ((mem_own1 (n := 15) M rfl).rd) (mem_rdU (n := 16) M rfl))) ?_
      intro ca26 cb26 cc26 cd26 ce26 cf26 cg26 ch26 cu26
      refine hK27 _ _ ?_
      refine g_v (.free rfl) rfl rfl (qt_move rfl rfl) ?_
      refine g_v (.free rfl) rfl rfl (qt_extract rfl rfl rfl) ?_
      refine g_v (.free rfl) rfl rfl (qt_extract rfl rfl rfl) ?_
      refine g_op (.free rfl) fun K29 hK29 => ?_
      refine go_alloc (z := (.agg #[.int .i64 0, .slice none 0 0, .slice none 0 0, .slice none 0 0, .slice none 0 0])) (cs := [.int .i64 0, .slice none 0 0, .slice none 0 0, .slice none 0 0, .slice none 0 0]) rfl rfl rfl (fun w => by kernel_rfl) rfl ?_
      intro B28
      refine hK29 _ _ ?_
      refine g_op (.free rfl) fun K30 hK30 => ?_
      refine go_storeS (n := 29) rfl rfl rfl rfl (by kernel_rfl) rfl rfl rfl ?_
      refine hK30 _ _ ?_
      refine g_v (.free rfl) rfl rfl (qt_assign rfl rfl) ?_
      refine g_nil ?_
      refine gk_then (hK25 _ _ ?_)
      refine gc_seq fun K31 hK31 => ?_
      refine gc_seq fun K32 hK32 => ?_
      refine gc_region ?_
      refine g_v (.free rfl) rfl rfl (qt_move rfl rfl) ?_
      refine g_v (.free rfl) rfl rfl (qt_neq rfl rfl rfl) ?_
      refine g_nil ?_
      refine gk_then (hK32 _ _ ?_)
      refine gc_cond rfl (fun hc2 => ?_) (fun hc2 => ?_)
      · try simp only [decide_eq_true_eq, decide_eq_false_iff_not, Bool.not_eq_true', Bool.not_eq_false', Bool.not_eq_eq_eq_not, Bool.not_true, Bool.not_false, ne_eq, Decidable.not_not, Classical.not_not] at hc2
        refine gc_seq fun K33 hK33 => ?_
        refine gc_region ?_
        refine g_v (.free rfl) rfl rfl (qt_build rfl rfl bt0_Functor) ?_
        refine g_v (.free rfl) rfl rfl (qt_move rfl rfl) ?_
        refine g_op (.free rfl) fun K34 hK34 => ?_
        refine go_storeS (n := 2) rfl rfl rfl rfl (by kernel_rfl) rfl rfl rfl ?_
        refine hK34 _ _ ?_
        refine g_v (.free rfl) rfl rfl (qt_assign rfl rfl) ?_
        refine g_nil ?_
        refine gk_then (hK33 _ _ ?_)
        refine gc_ret ?_
        refine gk_then_ret ?_
        refine ret_SI (n := 2) rfl rfl rfl Try.underlying31 rfl (by kernel_rfl) rfl (fun w M => ?_)
        have f3 := cs_3 hF.cs hG.cs hc2; rw [f3.2, cof_l hc0 (bP_t' hc1) f3.1]; exact retFI_zero M.1
      · try simp only [decide_eq_true_eq, decide_eq_false_iff_not, Bool.not_eq_true', Bool.not_eq_false', Bool.not_eq_eq_eq_not, Bool.not_true, Bool.not_false, ne_eq, Decidable.not_not, Classical.not_not] at hc2
        refine gc_skip ?_
        refine gk_then (hK31 _ _ ?_)
        refine gc_seq fun K35 hK35 => ?_
        have f1 := cs_0 hF.cs hG.cs hc2
        simp only [sum_t hF.cs hG.cs f1]
        simp only [List.nil_append, List.cons_append, List.append_assoc, List.set_cons_succ, List.set_cons_zero]
        refine gc_region ?_
        refine g_v (.free rfl) rfl rfl (qt_field (z := 0) (off := 10) rfl rfl Try.underlying31 rfl (by kernel_rfl) rfl) ?_
        refine g_v (.free rfl) rfl rfl (qt_loadB (n := 23) rfl rfl Try.underlying22 rfl rfl rfl) ?_
        refine g_v (.free rfl) rfl rfl (qt_field (z := 0) (off := 10) rfl rfl Try.underlying31 rfl (by kernel_rfl) rfl) ?_
        refine g_v (.free rfl) rfl rfl (qt_loadB (n := 24) rfl rfl Try.underlying22 rfl rfl rfl) ?_
        refine g_op (.free rfl) fun K37 hK37 => ?_
        refine go_sliceH2 rfl rfl rfl rfl rfl rfl ?_
        intro B36
        refine hK37 _ _ ?_
        refine g_op (.free rfl) fun K39 hK39 => ?_
        refine go_callL rfl rfl rfl Try.func48 rfl (by decide) rfl (fun w M => concat_any w _ _ (rd2_bx2 (mem_bx (n := 30) M rfl) ((mem_own1 (n := 11) M rfl).rd) ((mem_own1 (n := 21) M rfl).rd)) (by simp [offR]; omega)) ?_
        intro va38 vc38
        refine hK39 _ _ ?_
        refine g_v (.free rfl) rfl rfl (qt_assign rfl rfl) ?_
        refine g_nil ?_
        refine gk_then (hK35 _ _ ?_)
        refine gc_seq fun K40 hK40 => ?_
        simp only [flat2]
        refine gc_region ?_
        refine g_v (.free rfl) rfl rfl (qt_field (z := 0) (off := 11) rfl rfl Try.underlying31 rfl (by kernel_rfl) rfl) ?_
        refine g_v (.free rfl) rfl rfl (qt_loadB (n := 23) rfl rfl Try.underlying22 rfl rfl rfl) ?_
        refine g_v (.free rfl) rfl rfl (qt_field (z := 0) (off := 11) rfl rfl Try.underlying31 rfl (by kernel_rfl) rfl) ?_
        refine g_v (.free rfl) rfl rfl (qt_loadB (n := 24) rfl rfl Try.underlying22 rfl rfl rfl) ?_
        refine g_op (.free rfl) fun K42 hK42 => ?_
        refine go_sliceH2 rfl rfl rfl rfl rfl rfl ?_
        intro B41
        refine hK42 _ _ ?_
        refine g_op (.free rfl) fun K44 hK44 => ?_
        refine go_callL rfl rfl rfl Try.func48 rfl (by decide) rfl (fun w M => concat_any w _ _ (rd2_bx2 (mem_bx (n := 32) M rfl) ((mem_own1 (n := 12) M rfl).rd) ((mem_own1 (n := 22) M rfl).rd)) (by simp [offR]; omega)) ?_
        intro va43 vc43
        refine hK44 _ _ ?_
        refine g_v (.free rfl) rfl rfl (qt_assign rfl rfl) ?_
        refine g_nil ?_
        refine gk_then (hK40 _ _ ?_)
        refine gc_seq fun K45 hK45 => ?_
        simp only [flat2, List.nil_append, List.cons_append, List.append_assoc, List.set_cons_succ, List.set_cons_zero]
        refine gc_region ?_
        refine g_v (.free rfl) rfl rfl (qt_loadS (n := 29) rfl rfl Try.underlying29 rfl (by kernel_rfl) rfl) ?_
        refine g_v (.free rfl) rfl rfl (qt_field (z := 4) (off := 5) rfl rfl Try.underlying31 rfl (by kernel_rfl) rfl) ?_
        refine g_v (.free rfl) rfl rfl (qt_loadP (n := 23) (z := 5) rfl rfl Try.underlying29 rfl (by kernel_rfl) rfl (by first | decide | exact Nat.le_refl _ | simp)) ?_
        refine g_v (.free rfl) rfl rfl (qt_move rfl rfl) ?_
        refine g_v (.free rfl) rfl rfl (qt_move rfl rfl) ?_
        refine g_v (.free rfl) rfl rfl (qt_build rfl rfl bt_Functor) ?_
        refine g_op (.free rfl) fun K46 hK46 => ?_
        refine go_storeS (n := 2) rfl rfl rfl rfl (by kernel_rfl) rfl rfl rfl ?_
        refine hK46 _ _ ?_
        refine g_v (.free rfl) rfl rfl (qt_assign rfl rfl) ?_
        refine g_nil ?_
        refine gk_then (hK45 _ _ ?_)
        refine gc_ret ?_
        refine ret_SI (n := 2) rfl rfl rfl Try.underlying31 rfl (by kernel_rfl) rfl (fun w M => ?_)
        rw [cof_t hc0 (bP_t' hc1) f1]; exact retFI_star (F := coFct F G) (mem_block 27 4 (mem_block 9 4 (mem_block 32 1 (mem_block 33 1 (M)))))

set_option maxHeartbeats 4000000 in
set_option maxRecDepth 100000 in
theorem spec_CopairFunctors (w : World) (v : Value) (F : Fct) (u : Value) (G : Fct) (h : RdF w v F) (e : RdF w u G) :
    Calls Try.prog 8 #[v, u] w (RetFI w (fCopairFunctors F G).1 (fCopairFunctors F G).2) := by
  have h0 := h
  obtain ⟨vx1, vx2, vx3, vx4, vx5, vx6, vx7, vx8, vx9, vx10, vk1, vk2, vk3, vk4, vk5, vk6, vk7, vk8, vk9, vk10, rfl, h1, h2, h3, h4, h5, h6, h7, h8, h9, h10⟩ := h.lists
  have e0 := e
  obtain ⟨ux1, ux2, ux3, ux4, ux5, ux6, ux7, ux8, ux9, ux10, uk1, uk2, uk3, uk4, uk5, uk6, uk7, uk8, uk9, uk10, rfl, e1, e2, e3, e4, e5, e6, e7, e8, e9, e10⟩ := e.lists
  go_enter Try.func8, Try.ntmps8
  refine gc_enter (N := 47) rfl (look_cons (k := 0) rfl (look_cons (k := 1) rfl (look_nil _))) ?_
  refine gc_seq fun K1 hK1 => ?_
  refine gc_region ?_
  refine g_op (.free rfl) fun K3 hK3 => ?_
  refine go_box rfl rfl rfl rfl rfl ?_
  intro B2
  refine hK3 _ _ ?_
  refine g_op (.free rfl) fun K5 hK5 => ?_
  refine go_box rfl rfl rfl rfl rfl ?_
  intro B4
  refine hK5 _ _ ?_
  refine g_op (.free rfl) fun K7 hK7 => ?_
  refine go_alloc (z := (.agg #[.int .i64 0, .slice none 0 0, .slice none 0 0, .slice none 0 0, .slice none 0 0, .int .i64 0, .slice none 0 0, .slice none 0 0, .slice none 0 0, .slice none 0 0, .slice none 0 0, .slice none 0 0])) (cs := [.int .i64 0, .slice none 0 0, .slice none 0 0, .slice none 0 0, .slice none 0 0, .int .i64 0, .slice none 0 0, .slice none 0 0, .slice none 0 0, .slice none 0 0, .slice none 0 0, .slice none 0 0]) rfl rfl rfl (fun w => by kernel_rfl) rfl ?_
  intro B6
  refine hK7 _ _ ?_
  refine g_v (.free rfl) rfl rfl (qt_assign rfl rfl) ?_
  refine g_nil ?_
  refine gk_then (hK1 _ _ ?_)
  refine gc_seq fun K8 hK8 => ?_
  refine gc_seq fun K9 hK9 => ?_
  refine gc_region ?_
  refine g_v (.free rfl) rfl rfl (qt_loadS (n := 0) rfl rfl Try.underlying31 rfl (by kernel_rfl) rfl) ?_
  refine g_v (.free rfl) rfl rfl (qt_loadS (n := 1) rfl rfl Try.underlying31 rfl (by kernel_rfl) rfl) ?_
  refine g_q (.free rfl) rfl rfl (qt_call rfl Try.func38 rfl (by decide) rfl (fun w M => specTwoF_any w _ _ (mem_rdF M h0) _ _ (mem_rdF M e0))) ?_
  refine g_v (.free rfl) rfl rfl (qt_assign rfl rfl) ?_
  refine g_nil ?_
  refine gk_then (hK9 _ _ ?_)
  refine gc_seq fun K10 hK10 => ?_
  refine gc_region ?_
  refine g_v (.free rfl) rfl rfl (qt_move rfl rfl) ?_
  refine g_v (.free rfl) rfl rfl (qt_neq rfl rfl rfl) ?_
  refine g_nil ?_
  refine gk_then (hK10 _ _ ?_)
  refine gc_cond rfl (fun hc0 => ?_) (fun hc0 => ?_)
  · try simp only [decide_eq_true_eq, decide_eq_false_iff_not, Bool.not_eq_true', Bool.not_eq_false', Bool.not_eq_eq_eq_not, Bool.not_true, Bool.not_false, ne_eq, Decidable.not_not, Classical.not_not] at hc0
    refine gc_seq fun K11 hK11 => ?_
    refine gc_region ?_
    refine g_v (.free rfl) rfl rfl (qt_build rfl rfl bt0_Functor) ?_
    refine g_v (.free rfl) rfl rfl (qt_move rfl rfl) ?_
    refine g_op (.free rfl) fun K12 hK12 => ?_
    refine go_storeS (n := 2) rfl rfl rfl rfl (by kernel_rfl) rfl rfl rfl ?_
    refine hK12 _ _ ?_
    refine g_v (.free rfl) rfl rfl (qt_assign rfl rfl) ?_
    refine g_nil ?_
    refine gk_then (hK11 _ _ ?_)
    refine gc_ret ?_
    refine gk_then_ret ?_
    refine ret_SI (n := 2) rfl rfl rfl Try.underlying31 rfl (by kernel_rfl) rfl (fun w M => ?_)
    rw [(twoFE_n hc0).2, cof_f hc0]; exact retFI_zero M.1
  · try simp only [decide_eq_true_eq, decide_eq_false_iff_not, Bool.not_eq_true', Bool.not_eq_false', Bool.not_eq_eq_eq_not, Bool.not_true, Bool.not_false, ne_eq, Decidable.not_not, Classical.not_not] at hc0
    refine gc_skip ?_
    refine gk_then (hK8 _ _ ?_)
    refine gc_seq fun K13 hK13 => ?_
    refine gc_seq fun K14 hK14 => ?_
    have hh := twoFE_0 hc0
    have hF := isf_of hh.1; have hG := isf_of hh.2
    have l1 := isf_lens hh.1; have l2 := isf_lens hh.2
    have o1 := l1.1; have o2 := l2.1; have a1 := l1.2.1; have a2 := l2.2.1
    refine gc_region ?_
    refine g_v (.free rfl) rfl rfl (qt_field (z := 4) (off := 5) rfl rfl Try.underlying31 rfl (by kernel_rfl) rfl) ?_
    refine g_v (.free rfl) rfl rfl (qt_loadP (n := 0) (z := 5) rfl rfl Try.underlying29 rfl (by kernel_rfl) rfl (by first | decide | exact Nat.le_refl _ | simp)) ?_
    refine g_v (.free rfl) rfl rfl (qt_field (z := 4) (off := 5) rfl rfl Try.underlying31 rfl (by kernel_rfl) rfl) ?_
    refine g_v (.free rfl) rfl rfl (qt_loadP (n := 1) (z := 5) rfl rfl Try.underlying29 rfl (by kernel_rfl) rfl (by first | decide | exact Nat.le_refl _ | simp)) ?_
    refine g_q (.free rfl) rfl rfl (qt_call rfl Try.func39 rfl (by decide) rfl (fun w M => specSameC_any w _ _ (rdC_mk (mem_rd M h5) (mem_rd M h6) (mem_rd M h7) (mem_rd2 M h8)) _ _ (rdC_mk (mem_rd M e5) (mem_rd M e6) (mem_rd M e7) (mem_rd2 M e8)))) ?_
    refine g_v (.free rfl) rfl rfl (qt_not rfl rfl) ?_
    refine g_nil ?_
    refine gk_then (hK14 _ _ ?_)
    refine gc_cond rfl (fun hc1 => ?_) (fun hc1 => ?_)
    · try simp only [decide_eq_true_eq, decide_eq_false_iff_not, Bool.not_eq_true', Bool.not_eq_false', Bool.not_eq_eq_eq_not, Bool.not_true, Bool.not_false, ne_eq, Decidable.not_not, Classical.not_not] at hc1
      refine gc_seq fun K15 hK15 => ?_
      refine gc_region ?_
      refine g_v (.free rfl) rfl rfl (qt_build rfl rfl bt0_Functor) ?_
      refine g_op (.free rfl) fun K16 hK16 => ?_
      refine go_storeS (n := 2) rfl rfl rfl rfl (by kernel_rfl) rfl rfl rfl ?_
      refine hK16 _ _ ?_
      refine g_v (.free rfl) rfl rfl (qt_assign rfl rfl) ?_
      refine g_nil ?_
      refine gk_then (hK15 _ _ ?_)
      refine gc_ret ?_
      refine gk_then_ret ?_
      refine ret_SI (n := 2) rfl rfl rfl Try.underlying31 rfl (by kernel_rfl) rfl (fun w M => ?_)
      rw [cof_s hc0 (bP_f' hc1)]; exact retFI_zero M.1
    · try simp only [decide_eq_true_eq, decide_eq_false_iff_not, Bool.not_eq_true', Bool.not_eq_false', Bool.not_eq_eq_eq_not, Bool.not_true, Bool.not_false, ne_eq, Decidable.not_not, Classical.not_not] at hc1
      refine gc_skip ?_
      refine gk_then (hK13 _ _ ?_)
      refine gc_seq fun K17 hK17 => ?_
      refine gc_region ?_
      refine g_v (.free rfl) rfl rfl (qt_field (z := 4) (off := 0) rfl rfl Try.underlying31 rfl (by kernel_rfl) rfl) ?_
      refine g_v (.free rfl) rfl rfl (qt_loadP (n := 0) (z := 5) rfl rfl Try.underlying29 rfl (by kernel_rfl) rfl (by first | decide | exact Nat.le_refl _ | simp)) ?_
      refine g_v (.free rfl) rfl rfl (qt_field (z := 4) (off := 0) rfl rfl Try.underlying31 rfl (by kernel_rfl) rfl) ?_
      refine g_v (.free rfl) rfl rfl (qt_loadP (n := 1) (z := 5) rfl rfl Try.underlying29 rfl (by kernel_rfl) rfl (by first | decide | exact Nat.le_refl _ | simp)) ?_
      refine g_op (.free rfl) fun K19 hK19 => ?_
      refine go_callC rfl rfl rfl Try.func40 rfl (by decide) rfl (fun w M => specSum_any w _ _ (rdC_mk (mem_rd M h1) (mem_rd M h2) (mem_rd M h3) (mem_rd2 M h4)) _ _ (rdC_mk (mem_rd M e1) (mem_rd M e2) (mem_rd M e3) (mem_rd2 M e4)) (isCat_of hF.cs).toShapeP (isCat_of hG.cs).toShapeP) ?_
      intro ca18 cb18 cc18 cd18 ce18 cf18 cg18 ch18 cu18
      refine hK19 _ _ ?_
      refine g_op (.free rfl) fun K21 hK21 => ?_
      refine go_alloc (z := (.agg #[.int .i64 0, .slice none 0 0, .slice none 0 0, .slice none 0 0, .slice none 0 0])) (cs := [.int .i64 0, .slice none 0 0, .slice none 0 0, .slice none 0 0, .slice none 0 0]) rfl rfl rfl (fun w => by kernel_rfl) rfl ?_
      intro B20
      refine hK21 _ _ ?_
      refine g_op (.free rfl) fun K22 hK22 => ?_
      refine go_storeS (n := 7) rfl rfl rfl rfl (by kernel_rfl) rfl rfl rfl ?_
      refine hK22 _ _ ?_
      refine g_nil ?_
      refine gk_then (hK17 _ _ ?_)
      refine gc_seq fun K23 hK23 => ?_
      refine gc_seq fun K24 hK24 => ?_
      refine gc_region ?_
      refine g_v (.free rfl) rfl rfl (qt_loadS (n := 7) rfl rfl Try.underlying29 rfl (by kernel_rfl) rfl) ?_
      refine g_q (.free rfl) rfl rfl (qt_call rfl Try.func41 rfl (by decide) rfl (fun w M => specFits_any w _ _ (rdC_mk ((mem_own1 (n := 3) M rfl).rd) ((mem_own1 (n := 4) M rfl).rd) ((mem_own1 (n := 5) M rfl).rd) (mem_rdU (n := 6) M rfl)))) ?_
      refine g_v (.free rfl) rfl rfl (qt_not rfl rfl) ?_
      refine g_nil ?_
      refine gk_then (hK24 _ _ ?_)
      refine gc_cond rfl (fun hc2 => ?_) (fun hc2 => ?_)
      · try simp only [decide_eq_true_eq, decide_eq_false_iff_not, Bool.not_eq_true', Bool.not_eq_false', Bool.not_eq_eq_eq_not, Bool.not_true, Bool.not_false, ne_eq, Decidable.not_not, Classical.not_not] at hc2
        refine gc_seq fun K25 hK25 => ?_
        refine gc_region ?_
        refine g_v (.free rfl) rfl rfl (qt_build rfl rfl bt0_Functor) ?_
        refine g_op (.free rfl) fun K26 hK26 => ?_
        refine go_storeS (n := 2) rfl rfl rfl rfl (by kernel_rfl) rfl rfl rfl ?_
        refine hK26 _ _ ?_
        refine g_v (.free rfl) rfl rfl (qt_assign rfl rfl) ?_
        refine g_nil ?_
        refine gk_then (hK25 _ _ ?_)
        refine gc_ret ?_
        refine gk_then_ret ?_
        refine ret_SI (n := 2) rfl rfl rfl Try.underlying31 rfl (by kernel_rfl) rfl (fun w M => ?_)
        rw [cof_l hc0 (bP_t' hc1) (bP_f' hc2)]; exact retFI_zero M.1
      · try simp only [decide_eq_true_eq, decide_eq_false_iff_not, Bool.not_eq_true', Bool.not_eq_false', Bool.not_eq_eq_eq_not, Bool.not_true, Bool.not_false, ne_eq, Decidable.not_not, Classical.not_not] at hc2
        refine gc_skip ?_
        refine gk_then (hK23 _ _ ?_)
        refine gc_seq fun K27 hK27 => ?_
        try simp only [List.nil_append, List.cons_append, List.append_assoc, List.set_cons_succ, List.set_cons_zero]
        refine ga_start _ (fun w M => mem_erase 2 (M)) ?_
        refine ga_v 0 rfl (by kernel_rfl) (by kernel_rfl) (by kernel_rfl) (.free rfl) rfl rfl (qt_loadS (n := 6) rfl rfl Try.underlying29 rfl (by kernel_rfl) rfl) (fun _ _ _ h => h) ?_
        refine ga_v 1 rfl (by kernel_rfl) (by kernel_rfl) (by kernel_rfl) (.free rfl) rfl rfl (qt_field (z := 4) (off := 5) rfl rfl Try.underlying31 rfl (by kernel_rfl) rfl) (fun _ _ _ h => h) ?_
        refine ga_v 2 rfl (by kernel_rfl) (by kernel_rfl) (by kernel_rfl) (.free rfl) rfl rfl (qt_loadP (n := 0) (z := 5) rfl rfl Try.underlying29 rfl (by kernel_rfl) rfl (by first | decide | exact Nat.le_refl _ | simp)) (fun _ _ _ h => h) ?_
        refine ga_v 3 rfl (by kernel_rfl) (by kernel_rfl) (by kernel_rfl) (.free rfl) rfl rfl (qt_field (z := 0) (off := 10) rfl rfl Try.underlying31 rfl (by kernel_rfl) rfl) (fun _ _ _ h => h) ?_
        refine ga_v 4 rfl (by kernel_rfl) (by kernel_rfl) (by kernel_rfl) (.free rfl) rfl rfl (qt_loadB (n := 0) rfl rfl Try.underlying22 rfl rfl rfl) (fun _ _ _ h => h) ?_
        refine ga_v 6 rfl (by kernel_rfl) (by kernel_rfl) (by kernel_rfl) (.free rfl) rfl rfl (qt_field (z := 0) (off := 10) rfl rfl Try.underlying31 rfl (by kernel_rfl) rfl) (fun _ _ _ h => h) ?_
        refine ga_v 7 rfl (by kernel_rfl) (by kernel_rfl) (by kernel_rfl) (.free rfl) rfl rfl (qt_loadB (n := 1) rfl rfl Try.underlying22 rfl rfl rfl) (fun _ _ _ h => h) ?_
        refine ga_v 9 rfl (by kernel_rfl) (by kernel_rfl) (by kernel_rfl) (.free rfl) rfl rfl (qt_field (z := 0) (off := 11) rfl rfl Try.underlying31 rfl (by kernel_rfl) rfl) (fun _ _ _ h => h) ?_
        refine ga_v 10 rfl (by kernel_rfl) (by kernel_rfl) (by kernel_rfl) (.free rfl) rfl rfl (qt_loadB (n := 0) rfl rfl Try.underlying22 rfl rfl rfl) (fun _ _ _ h => h) ?_
        refine ga_v 12 rfl (by kernel_rfl) (by kernel_rfl) (by kernel_rfl) (.free rfl) rfl rfl (qt_field (z := 0) (off := 11) rfl rfl Try.underlying31 rfl (by kernel_rfl) rfl) (fun _ _ _ h => h) ?_
        refine ga_v 13 rfl (by kernel_rfl) (by kernel_rfl) (by kernel_rfl) (.free rfl) rfl rfl (qt_loadB (n := 1) rfl rfl Try.underlying22 rfl rfl rfl) (fun _ _ _ h => h) ?_
        refine ga_op 5 (by kernel_rfl) rfl (.free rfl) fun K29 hK29 => ?_
        refine go_callL rfl rfl rfl Try.func43 rfl (by decide) rfl (fun w M => specOwn_any w _ _ (mem_rd M h9)) ?_
        intro va28 vc28
        refine hK29 _ _ (fun w M => (mem_erase 2 (mem_take 8 M) :)) ?_
        refine ga_op 8 (by kernel_rfl) rfl (.free rfl) fun K31 hK31 => ?_
        refine go_appendA (n := 8) rfl rfl rfl Try.underlying22 rfl rfl rfl (fun w M => mem_rd M e9) (by first | simp; omega | omega) ?_
        intro va30 vc30
        refine hK31 _ _ (fun w M => (mem_erase 2 (mem_take 8 M) :)) ?_
        refine ga_op 11 (by kernel_rfl) rfl (.free rfl) fun K33 hK33 => ?_
        refine go_callL rfl rfl rfl Try.func43 rfl (by decide) rfl (fun w M => specOwn_any w _ _ (mem_rd M h10)) ?_
        intro va32 vc32
        refine hK33 _ _ (fun w M => (mem_erase 2 (mem_take 8 M) :)) ?_
        refine ga_op 14 (by kernel_rfl) rfl (.free rfl) fun K35 hK35 => ?_
        refine go_appendA (n := 9) rfl rfl rfl Try.underlying22 rfl rfl rfl (fun w M => mem_rd M e10) (by first | simp; omega | omega) ?_
        intro va34 vc34
        refine hK35 _ _ (fun w M => (mem_erase 2 (mem_take 8 M) :)) ?_
        refine ga_op 15 (by kernel_rfl) rfl (.free rfl) fun K37 hK37 => ?_
        refine go_callFn rfl rfl rfl Try.func42 rfl (by decide) rfl (fun w M => specMakeF_any w _ _ (rdC_mk ((mem_own1 (n := 3) M rfl).rd) ((mem_own1 (n := 4) M rfl).rd) ((mem_own1 (n := 5) M rfl).rd) (mem_rdU (n := 6) M rfl)) _ _ (rdC_mk (mem_rd M h5) (mem_rd M h6) (mem_rd M h7) (mem_rd2 M h8)) _ _ _ _ ((mem_own1 (n := 8) M rfl).rd) ((mem_own1 (n := 9) M rfl).rd)) ?_
        intro fx1_36 fk1_36 fx2_36 fk2_36 fx3_36 fk3_36 fx4_36 fk4_36 fx5_36 fk5_36 fx6_36 fk6_36 fx7_36 fk7_36 fx8_36 fk8_36 fx9_36 fk9_36 fx10_36 fk10_36 us36 ut36
        refine hK37 _ _ (fun w M => (mem_erase 2 (mem_take 8 M) :)) ?_
        refine ga_op 16 (by kernel_rfl) rfl (.free rfl) fun K38 hK38 => ?_
        refine go_storeS (n := 2) rfl rfl rfl rfl (by kernel_rfl) rfl rfl rfl ?_
        refine hK38 _ _ (fun w M => (mem_erase 2 (mem_take 8 M) :)) ?_
        refine ga_v 17 rfl (by kernel_rfl) (by kernel_rfl) (by kernel_rfl) (.free rfl) rfl rfl (qt_assign rfl rfl) (fun _ _ _ h => h) ?_
        refine ga_done (by kernel_rfl) ?_
        refine gk_then (hK27 _ _ ?_)
        refine gc_ret ?_
        refine ret_SI (n := 2) rfl rfl rfl Try.underlying31 rfl (by kernel_rfl) rfl (fun w M => ?_)
        rw [cof_t hc0 (bP_t' hc1) (bP_t' hc2)]; exact retFI_star (F := coFct F G) (mem_block 10 10 (M))

end Go.Proofs.Ytpppoipaabofgab
