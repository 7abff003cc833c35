import Derived.Test.YtpcabkdkdnchaaaGreatZ31
set_option linter.unusedSimpArgs false
set_option linter.unusedVariables false
set_option linter.unusedSectionVars false
namespace Go.Proofs.YtpcabkdkdnchaaaGreat
open Go.RowKit
set_option maxHeartbeats 2000000 in
set_option maxRecDepth 100000 in
theorem impl_ArrowCategory (w : World) (v : Value) (c : Cat) (h : RdC w v c) :
  Calls Tryz.prog 34 #[v] w (RetCI w (fArrowCategory c).1 (fArrowCategory c).2) := by
 have h0 := h
 obtain ⟨va, vb, vc, vd, ve, vf, vg, vh, rfl, h1, h2, h3, h4, _⟩ := h.lists
 have hcas : (fIsCategory c = true ∧ fIdentityFunctor c = (selfF c, 0) ∧ fArrowCategory c = fCommaCategory (selfF c) (selfF c)) ∨ (fIdentityFunctor c = (fct0, 1) ∧ fArrowCategory c = (cat0, 1)) := by
  by_cases hI : fIsCategory c = true
  ·exact .inl ⟨hI, idf_t hI, if_pos hI⟩
  ·exact .inr ⟨idf_f hI, if_neg hI⟩
 go_enter Tryz.func34, Tryz.ntmps34
 refine gc_enter (N := 20) rfl (look_cons (k := 0) rfl (look_nil _)) ?_
 refine gc_sr fun K1 hK1 => ?_
 refine gop fun K3 hK3 => ?_
 refine go_box rfl rfl rfl rfl rfl ?_
 intro B2
 refine hK3 _ _ ?_
 refine gop fun K5 hK5 => ?_
 refine go_alloc (z := (.agg #[.int .i64 0, .slice none 0 0, .slice none 0 0, .slice none 0 0, .slice none 0 0])) (cs := [.int .i64 0, .slice none 0 0, .slice none 0 0, .slice none 0 0, .slice none 0 0]) rfl rfl rfl (fun w => by kernel_rfl) rfl ?_
 intro B4
 refine hK5 _ _ ?_
 refine gas ?_
 refine gnt (hK1 _ _ ?_)
 refine gc_sr fun K6 hK6 => ?_
 refine gv (qts Tryz.underlying29 (n := 0)) ?_
 refine gop fun K8 hK8 => ?_
 refine go_callFI rfl rfl rfl Tryz.func67 rfl (by decide) rfl (fun w M => impl_IdentityFunctor w _ _ (mem_rdC M h0)) ?_
 intro fx1_7 fk1_7 fx2_7 fk2_7 fx3_7 fk3_7 fx4_7 fk4_7 fx5_7 fk5_7 fx6_7 fk6_7 fx7_7 fk7_7 fx8_7 fk8_7 fx9_7 fk9_7 fx10_7 fk10_7 us7 ut7
 refine hK8 _ _ ?_
 refine gm ?_
 refine gv (qt_extract rfl rfl rfl) ?_
 refine gv (qt_extract rfl rfl rfl) ?_
 refine gop fun K10 hK10 => ?_
 refine go_alloc (z := (.agg #[.int .i64 0, .slice none 0 0, .slice none 0 0, .slice none 0 0, .slice none 0 0, .int .i64 0, .slice none 0 0, .slice none 0 0, .slice none 0 0, .slice none 0 0, .slice none 0 0, .slice none 0 0])) (cs := [.int .i64 0, .slice none 0 0, .slice none 0 0, .slice none 0 0, .slice none 0 0, .int .i64 0, .slice none 0 0, .slice none 0 0, .slice none 0 0, .slice none 0 0, .slice none 0 0, .slice none 0 0]) rfl rfl rfl (fun w => by kernel_rfl) rfl ?_
 intro B9
 refine hK10 _ _ ?_
 refine gop fun K11 hK11 => ?_
 refine go_storeS (n := 12) rfl rfl rfl rfl (by kernel_rfl) rfl rfl rfl ?_
 refine hK11 _ _ ?_
 refine gas ?_
 refine gnt (hK6 _ _ ?_)
 refine gc_seq fun K12 hK12 => ?_
 refine gc_seq fun K13 hK13 => ?_
 rcases (hcas) with hk0 | hk1
 ·skip
  obtain ⟨hI, e1, e2⟩ := hk0
  simp only [e1]
  refine gc_region ?_
  refine gm ?_
  refine gv (qt_neq rfl rfl rfl) ?_
  refine gnt (hK13 _ _ ?_)
  refine gc_cond rfl (fun hc0 => ?_) (fun hc0 => ?_)
  ·try simp only [sA] at hc0
   first | exact absurd rfl hc0 | exact absurd trivial hc0
  ·try simp only [sA] at hc0
   refine gc_skip ?_
   refine gk_then (hK12 _ _ ?_)
   refine gc_sr fun K14 hK14 => ?_
   refine gv (qts Tryz.underlying31 (n := 12)) ?_
   refine gv (qts Tryz.underlying31 (n := 12)) ?_
   refine gop fun K16 hK16 => ?_
   refine go_callCI rfl rfl rfl Tryz.func59 rfl (by decide) rfl (fun w M => impl_CommaCategory w _ _ _ _ (rdF_mk ((mem_own1 (n := 2) M rfl).rd) ((mem_own1 (n := 3) M rfl).rd) ((mem_own1 (n := 4) M rfl).rd) (mem_rdU (n := 5) M rfl) ((mem_own1 (n := 6) M rfl).rd) ((mem_own1 (n := 7) M rfl).rd) ((mem_own1 (n := 8) M rfl).rd) (mem_rdU (n := 9) M rfl) ((mem_own1 (n := 10) M rfl).rd) ((mem_own1 (n := 11) M rfl).rd)) (rdF_mk ((mem_own1 (n := 2) M rfl).rd) ((mem_own1 (n := 3) M rfl).rd) ((mem_own1 (n := 4) M rfl).rd) (mem_rdU (n := 5) M rfl) ((mem_own1 (n := 6) M rfl).rd) ((mem_own1 (n := 7) M rfl).rd) ((mem_own1 (n := 8) M rfl).rd) (mem_rdU (n := 9) M rfl) ((mem_own1 (n := 10) M rfl).rd) ((mem_own1 (n := 11) M rfl).rd))) ?_
   intro ca15 cb15 cc15 cd15 ce15 cf15 cg15 ch15 cu15
   refine hK16 _ _ ?_
   refine gv (qt_extract rfl rfl rfl) ?_
   refine gv (qt_extract rfl rfl rfl) ?_
   refine gop fun K17 hK17 => ?_
   refine go_storeS (n := 1) rfl rfl rfl rfl (by kernel_rfl) rfl rfl rfl ?_
   refine hK17 _ _ ?_
   refine gas ?_
   refine gnt (hK14 _ _ ?_)
   refine gc_ret ?_
   refine ret_SI (n := 1) rfl rfl rfl Tryz.underlying29 rfl (by kernel_rfl) rfl (fun w M => ?_)
   rw [e2]; exact ⟨_, rfl, ownC_star (mem_pick (n := 16) (mem_pick (n := 16) (mem_pick (n := 16) (mem_pick (n := 16) (M) rfl) rfl) rfl) rfl).2, M.1⟩
 ·skip
  obtain ⟨e1, e2⟩ := hk1
  simp only [e1]
  refine gc_region ?_
  refine gm ?_
  refine gv (qt_neq rfl rfl rfl) ?_
  refine gnt (hK13 _ _ ?_)
  refine gc_cond rfl (fun hc1 => ?_) (fun hc1 => ?_)
  ·try simp only [sA] at hc1
   refine gc_sr fun K18 hK18 => ?_
   refine gv (qt_build rfl rfl bt0_Category) ?_
   refine gm ?_
   refine gop fun K19 hK19 => ?_
   refine go_storeS (n := 1) rfl rfl rfl rfl (by kernel_rfl) rfl rfl rfl ?_
   refine hK19 _ _ ?_
   refine gas ?_
   refine gnt (hK18 _ _ ?_)
   refine gc_ret ?_
   refine gk_then_ret ?_
   refine ret_SI (n := 1) rfl rfl rfl Tryz.underlying29 rfl (by kernel_rfl) rfl (fun w M => ?_)
   rw [e2]; exact ⟨_, rfl, ownC_zero _ _, M.1⟩
  ·try simp only [sA] at hc1
   first | exact absurd hc1 (by decide) | simp at hc1
set_option maxHeartbeats 4000000 in
set_option maxRecDepth 100000 in
theorem spec_ArrowCategory (w : World) (v : Value) (c : Cat) (h : RdC w v c) :
  Calls Tryz.prog 33 #[v] w (RetCI w (fArrowCategory c).1 (fArrowCategory c).2) := by
 have h0 := h
 obtain ⟨va, vb, vc, vd, ve, vf, vg, vh, rfl, h1, h2, h3, h4, _⟩ := h.lists
 go_enter Tryz.func33, Tryz.ntmps33
 refine gc_enter (N := 15) rfl (look_cons (k := 0) rfl (look_nil _)) ?_
 refine gc_sr fun K1 hK1 => ?_
 refine gop fun K3 hK3 => ?_
 refine go_box rfl rfl rfl rfl rfl ?_
 intro B2
 refine hK3 _ _ ?_
 refine gop fun K5 hK5 => ?_
 refine go_alloc (z := (.agg #[.int .i64 0, .slice none 0 0, .slice none 0 0, .slice none 0 0, .slice none 0 0])) (cs := [.int .i64 0, .slice none 0 0, .slice none 0 0, .slice none 0 0, .slice none 0 0]) rfl rfl rfl (fun w => by kernel_rfl) rfl ?_
 intro B4
 refine hK5 _ _ ?_
 refine gas ?_
 refine gnt (hK1 _ _ ?_)
 refine gc_seq fun K6 hK6 => ?_
 refine gc_sr fun K7 hK7 => ?_
 refine gv (qts Tryz.underlying29 (n := 0)) ?_
 refine g_q (.free rfl) rfl rfl (qt_call rfl Tryz.func66 rfl (by decide) rfl (fun w M => specIs_any w _ _ (mem_rdC M h0))) ?_
 refine gv (qt_not rfl rfl) ?_
 refine gnt (hK7 _ _ ?_)
 refine gc_cond rfl (fun hc0 => ?_) (fun hc0 => ?_)
 ·try simp only [sA] at hc0
  refine gc_sr fun K8 hK8 => ?_
  refine gv (qt_build rfl rfl bt0_Category) ?_
  refine gop fun K9 hK9 => ?_
  refine go_storeS (n := 1) rfl rfl rfl rfl (by kernel_rfl) rfl rfl rfl ?_
  refine hK9 _ _ ?_
  refine gas ?_
  refine gnt (hK8 _ _ ?_)
  refine gc_ret ?_
  refine gk_then_ret ?_
  refine ret_SI (n := 1) rfl rfl rfl Tryz.underlying29 rfl (by kernel_rfl) rfl (fun w M => ?_)
  rw [show fArrowCategory c = (cat0, 1) from if_neg (by rw [hc0]; decide)]; exact ⟨_, rfl, ownC_zero _ _, M.1⟩
 ·try simp only [sA] at hc0
  refine gc_skip ?_
  refine gk_then (hK6 _ _ ?_)
  refine gc_seq fun K10 hK10 => ?_
  have hS := (isCat_of hc0).toShapeP
  try simp only [sL]
  refine ga_start _ (fun w M => mem_erase 1 (M)) ?_
  refine gav 0 rfl (qts Tryz.underlying29 (n := 0)) ?_
  refine gav 2 rfl (qts Tryz.underlying29 (n := 0)) ?_
  refine gao 1 fun K12 hK12 => ?_
  refine go_callFn rfl rfl rfl Tryz.func55 rfl (by decide) rfl (fun w M => specSelf_any w _ _ (mem_rdC M h0) (hS)) ?_
  intro fx1_11 fk1_11 fx2_11 fk2_11 fx3_11 fk3_11 fx4_11 fk4_11 fx5_11 fk5_11 fx6_11 fk6_11 fx7_11 fk7_11 fx8_11 fk8_11 fx9_11 fk9_11 fx10_11 fk10_11 us11 ut11
  refine hK12 _ _ (fun w M => (mem_erase 1 (mem_take 2 M) :)) ?_
  refine gao 3 fun K14 hK14 => ?_
  refine go_callFn rfl rfl rfl Tryz.func55 rfl (by decide) rfl (fun w M => specSelf_any w _ _ (mem_rdC M h0) (hS)) ?_
  intro fx1_13 fk1_13 fx2_13 fk2_13 fx3_13 fk3_13 fx4_13 fk4_13 fx5_13 fk5_13 fx6_13 fk6_13 fx7_13 fk7_13 fx8_13 fk8_13 fx9_13 fk9_13 fx10_13 fk10_13 us13 ut13
  refine hK14 _ _ (fun w M => (mem_erase 1 (mem_take 2 M) :)) ?_
  refine gao 4 fun K16 hK16 => ?_
  refine go_callCI rfl rfl rfl Tryz.func54 rfl (by decide) rfl (fun w M => spec_CommaCategory w _ _ _ _ (rdF_mk ((mem_own1 (n := 2) M rfl).rd) ((mem_own1 (n := 3) M rfl).rd) ((mem_own1 (n := 4) M rfl).rd) (mem_rdU (n := 5) M rfl) ((mem_own1 (n := 6) M rfl).rd) ((mem_own1 (n := 7) M rfl).rd) ((mem_own1 (n := 8) M rfl).rd) (mem_rdU (n := 9) M rfl) ((mem_own1 (n := 10) M rfl).rd) ((mem_own1 (n := 11) M rfl).rd)) (rdF_mk ((mem_own1 (n := 12) M rfl).rd) ((mem_own1 (n := 13) M rfl).rd) ((mem_own1 (n := 14) M rfl).rd) (mem_rdU (n := 15) M rfl) ((mem_own1 (n := 16) M rfl).rd) ((mem_own1 (n := 17) M rfl).rd) ((mem_own1 (n := 18) M rfl).rd) (mem_rdU (n := 19) M rfl) ((mem_own1 (n := 20) M rfl).rd) ((mem_own1 (n := 21) M rfl).rd))) ?_
  intro ca15 cb15 cc15 cd15 ce15 cf15 cg15 ch15 cu15
  refine hK16 _ _ (fun w M => (mem_erase 1 (mem_take 2 M) :)) ?_
  refine gav 5 rfl (qt_extract rfl rfl rfl) ?_
  refine gav 6 rfl (qt_extract rfl rfl rfl) ?_
  refine gao 7 fun K17 hK17 => ?_
  refine go_storeS (n := 1) rfl rfl rfl rfl (by kernel_rfl) rfl rfl rfl ?_
  refine hK17 _ _ (fun w M => (mem_erase 1 (mem_take 2 M) :)) ?_
  refine gav 8 rfl (qt_assign rfl rfl) ?_
  refine ga_done (by kernel_rfl) ?_
  refine gk_then (hK10 _ _ ?_)
  refine gc_ret ?_
  refine ret_SI (n := 1) rfl rfl rfl Tryz.underlying29 rfl (by kernel_rfl) rfl (fun w M => ?_)
  rw [show fArrowCategory c = fCommaCategory (selfF c) (selfF c) from if_pos hc0]; exact ⟨_, rfl, ownC_star (mem_pick (n := 25) (mem_pick (n := 25) (mem_pick (n := 25) (mem_pick (n := 25) (M) rfl) rfl) rfl) rfl).2, M.1⟩
end Go.Proofs.YtpcabkdkdnchaaaGreat
