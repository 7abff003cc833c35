import Derived.Test.YtpcabkdkdnchaaaGreatZ31
set_option linter.unusedSimpArgs false
set_option linter.unusedVariables false
set_option linter.unusedSectionVars false
namespace Go.Proofs.YtpcabkdkdnchaaaGreat
open Go.RowKit
set_option maxHeartbeats 2000000 in
set_option maxRecDepth 100000 in
theorem impl_CosliceFunctor (w : World) (v : Value) (c : Cat) (x : Int) (h : RdC w v c) :
  Calls Tryz.prog 32 #[v, .int .i64 x] w (RetFI w (fCosliceFunctor c x).1 (fCosliceFunctor c x).2) := by
 have h0 := h
 obtain ⟨va, vb, vc, vd, ve, vf, vg, vh, rfl, h1, h2, h3, h4, _⟩ := h.lists
 go_enter Tryz.func32, Tryz.ntmps32
 refine gc_enter (N := 11) rfl (look_cons (k := 0) rfl (look_cons (k := 1) rfl (look_nil _))) ?_
 refine gc_sr fun K1 hK1 => ?_
 refine gop fun K3 hK3 => ?_
 refine go_box rfl rfl rfl rfl rfl ?_
 intro B2
 refine hK3 _ _ ?_
 refine gop fun K5 hK5 => ?_
 refine go_alloc (z := (.agg #[.int .i64 0, .slice none 0 0, .slice none 0 0, .slice none 0 0, .slice none 0 0, .int .i64 0, .slice none 0 0, .slice none 0 0, .slice none 0 0, .slice none 0 0, .slice none 0 0, .slice none 0 0])) (cs := [.int .i64 0, .slice none 0 0, .slice none 0 0, .slice none 0 0, .slice none 0 0, .int .i64 0, .slice none 0 0, .slice none 0 0, .slice none 0 0, .slice none 0 0, .slice none 0 0, .slice none 0 0]) rfl rfl rfl (fun w => by kernel_rfl) rfl ?_
 intro B4
 refine hK5 _ _ ?_
 refine gas ?_
 refine gnt (hK1 _ _ ?_)
 refine gc_sr fun K6 hK6 => ?_
 refine gv (qts Tryz.underlying29 (n := 0)) ?_
 refine gm ?_
 refine gop fun K8 hK8 => ?_
 refine go_callFI rfl rfl rfl Tryz.func65 rfl (by decide) rfl (fun w M => askCoF_any w _ _ _ (mem_rdC M h0) _ (⟨_, _, _, rfl⟩) (fCommaRight (pntF c x) (selfF c)).1 (fCommaRight (pntF c x) (selfF c)).2 (fun hI hx w' v1 v2 hb r1 r2 => callsV_f (bnd := []) (vs := [_, _]) (caps := []) Tryz.func19 rfl (by decide) (impl_CommaRight w' v1 (pntF c x) v2 (selfF c) r1 r2))) ?_
 intro fx1_7 fk1_7 fx2_7 fk2_7 fx3_7 fk3_7 fx4_7 fk4_7 fx5_7 fk5_7 fx6_7 fk6_7 fx7_7 fk7_7 fx8_7 fk8_7 fx9_7 fk9_7 fx10_7 fk10_7 us7 ut7
 refine hK8 _ _ ?_
 refine gv (qt_extract rfl rfl rfl) ?_
 refine gv (qt_extract rfl rfl rfl) ?_
 refine gop fun K9 hK9 => ?_
 refine go_storeS (n := 1) rfl rfl rfl rfl (by kernel_rfl) rfl rfl rfl ?_
 refine hK9 _ _ ?_
 refine gas ?_
 refine gnt (hK6 _ _ ?_)
 refine gc_ret ?_
 refine ret_SI (n := 1) rfl rfl rfl Tryz.underlying31 rfl (by kernel_rfl) rfl (fun w M => ?_)
 try simp only [sL] at M
 exact retFI_star (F := (fCosliceFunctor c x).1) (mem_block 2 10 (M))
set_option maxHeartbeats 4000000 in
set_option maxRecDepth 100000 in
theorem spec_CosliceFunctor (w : World) (v : Value) (c : Cat) (x : Int) (h : RdC w v c) :
  Calls Tryz.prog 31 #[v, .int .i64 x] w (RetFI w (fCosliceFunctor c x).1 (fCosliceFunctor c x).2) := by
 have h0 := h
 obtain ⟨va, vb, vc, vd, ve, vf, vg, vh, rfl, h1, h2, h3, h4, _⟩ := h.lists
 go_enter Tryz.func31, Tryz.ntmps31
 refine gc_enter (N := 22) rfl (look_cons (k := 0) rfl (look_cons (k := 1) rfl (look_nil _))) ?_
 refine gc_sr fun K1 hK1 => ?_
 refine gop fun K3 hK3 => ?_
 refine go_box rfl rfl rfl rfl rfl ?_
 intro B2
 refine hK3 _ _ ?_
 refine gop fun K5 hK5 => ?_
 refine go_alloc (z := (.agg #[.int .i64 0, .slice none 0 0, .slice none 0 0, .slice none 0 0, .slice none 0 0, .int .i64 0, .slice none 0 0, .slice none 0 0, .slice none 0 0, .slice none 0 0, .slice none 0 0, .slice none 0 0])) (cs := [.int .i64 0, .slice none 0 0, .slice none 0 0, .slice none 0 0, .slice none 0 0, .int .i64 0, .slice none 0 0, .slice none 0 0, .slice none 0 0, .slice none 0 0, .slice none 0 0, .slice none 0 0]) rfl rfl rfl (fun w => by kernel_rfl) rfl ?_
 intro B4
 refine hK5 _ _ ?_
 refine gas ?_
 refine gnt (hK1 _ _ ?_)
 refine gc_seq fun K6 hK6 => ?_
 refine gc_sr fun K7 hK7 => ?_
 refine gv (qts Tryz.underlying29 (n := 0)) ?_
 refine gm ?_
 refine g_q (.free rfl) rfl rfl (qt_call rfl Tryz.func53 rfl (by decide) rfl (fun w M => specObj9_any w _ _ _ (mem_rdC M h0))) ?_
 refine gas ?_
 refine gnt (hK7 _ _ ?_)
 refine gc_sr fun K8 hK8 => ?_
 refine gm ?_
 refine gv (qt_neq rfl rfl rfl) ?_
 refine gnt (hK8 _ _ ?_)
 refine gc_cond rfl (fun hc0 => ?_) (fun hc0 => ?_)
 ·try simp only [sA] at hc0
  refine gc_sr fun K9 hK9 => ?_
  refine gv (qt_build rfl rfl bt0_Functor) ?_
  refine gm ?_
  refine gop fun K10 hK10 => ?_
  refine go_storeS (n := 1) rfl rfl rfl rfl (by kernel_rfl) rfl rfl rfl ?_
  refine hK10 _ _ ?_
  refine gas ?_
  refine gnt (hK9 _ _ ?_)
  refine gc_ret ?_
  refine gk_then_ret ?_
  refine ret_SI (n := 1) rfl rfl rfl Tryz.underlying31 rfl (by kernel_rfl) rfl (fun w M => ?_)
  have hn := ask_n hc0 cat0 fct0 0; show RetFI _ (askF c x _) (askN c x _) _ _; rw [show askF c x _ = _ from if_neg hc0, show askN c x _ = _ from if_neg hc0]; exact retFI_zero M.1
 ·try simp only [sA] at hc0
  refine gc_skip ?_
  refine gk_then (hK6 _ _ ?_)
  refine gc_seq fun K11 hK11 => ?_
  have hx := ask_x hc0
  have hS := (isCat_of hx.1).toShapeP
  try simp only [sL]
  refine ga_start _ (fun w M => mem_erase 1 (M)) ?_
  refine gav 0 rfl (qts Tryz.underlying29 (n := 0)) ?_
  refine gav 1 rfl (qt_move rfl rfl) ?_
  refine gav 3 rfl (qts Tryz.underlying29 (n := 0)) ?_
  refine gao 2 fun K13 hK13 => ?_
  refine go_callFn rfl rfl rfl Tryz.func56 rfl (by decide) rfl (fun w M => specPoint_any w _ _ _ (mem_rdC M h0) (hS) (hx.2)) ?_
  intro fx1_12 fk1_12 fx2_12 fk2_12 fx3_12 fk3_12 fx4_12 fk4_12 fx5_12 fk5_12 fx6_12 fk6_12 fx7_12 fk7_12 fx8_12 fk8_12 fx9_12 fk9_12 fx10_12 fk10_12 us12 ut12
  refine hK13 _ _ (fun w M => (mem_erase 1 (mem_take 2 M) :)) ?_
  refine gao 4 fun K15 hK15 => ?_
  refine go_callFn rfl rfl rfl Tryz.func55 rfl (by decide) rfl (fun w M => specSelf_any w _ _ (mem_rdC M h0) (hS)) ?_
  intro fx1_14 fk1_14 fx2_14 fk2_14 fx3_14 fk3_14 fx4_14 fk4_14 fx5_14 fk5_14 fx6_14 fk6_14 fx7_14 fk7_14 fx8_14 fk8_14 fx9_14 fk9_14 fx10_14 fk10_14 us14 ut14
  refine hK15 _ _ (fun w M => (mem_erase 1 (mem_take 2 M) :)) ?_
  refine gao 5 fun K17 hK17 => ?_
  refine go_callFI rfl rfl rfl Tryz.func18 rfl (by decide) rfl (fun w M => spec_CommaRight w _ _ _ _ (rdF_mk ((mem_own1 (n := 2) M rfl).rd) ((mem_own1 (n := 3) M rfl).rd) ((mem_own1 (n := 4) M rfl).rd) (mem_rdU (n := 5) M rfl) ((mem_own1 (n := 6) M rfl).rd) ((mem_own1 (n := 7) M rfl).rd) ((mem_own1 (n := 8) M rfl).rd) (mem_rdU (n := 9) M rfl) ((mem_own1 (n := 10) M rfl).rd) ((mem_own1 (n := 11) M rfl).rd)) (rdF_mk ((mem_own1 (n := 12) M rfl).rd) ((mem_own1 (n := 13) M rfl).rd) ((mem_own1 (n := 14) M rfl).rd) (mem_rdU (n := 15) M rfl) ((mem_own1 (n := 16) M rfl).rd) ((mem_own1 (n := 17) M rfl).rd) ((mem_own1 (n := 18) M rfl).rd) (mem_rdU (n := 19) M rfl) ((mem_own1 (n := 20) M rfl).rd) ((mem_own1 (n := 21) M rfl).rd))) ?_
  intro fx1_16 fk1_16 fx2_16 fk2_16 fx3_16 fk3_16 fx4_16 fk4_16 fx5_16 fk5_16 fx6_16 fk6_16 fx7_16 fk7_16 fx8_16 fk8_16 fx9_16 fk9_16 fx10_16 fk10_16 us16 ut16
  refine hK17 _ _ (fun w M => (mem_erase 1 (mem_take 2 M) :)) ?_
  refine gav 6 rfl (qt_extract rfl rfl rfl) ?_
  refine gav 7 rfl (qt_extract rfl rfl rfl) ?_
  refine gao 8 fun K18 hK18 => ?_
  refine go_storeS (n := 1) rfl rfl rfl rfl (by kernel_rfl) rfl rfl rfl ?_
  refine hK18 _ _ (fun w M => (mem_erase 1 (mem_take 2 M) :)) ?_
  refine gav 9 rfl (qt_assign rfl rfl) ?_
  refine ga_done (by kernel_rfl) ?_
  refine gk_then (hK11 _ _ ?_)
  refine gc_ret ?_
  refine ret_SI (n := 1) rfl rfl rfl Tryz.underlying31 rfl (by kernel_rfl) rfl (fun w M => ?_)
  try simp only [sL] at M
  show RetFI _ (askF c x _) (askN c x _) _ _; rw [show askF c x _ = _ from if_pos hc0, show askN c x _ = _ from if_pos hc0]; exact retFI_star (F := (fCommaRight (pntF c x) (selfF c)).1) (mem_block 22 10 (M))
end Go.Proofs.YtpcabkdkdnchaaaGreat
