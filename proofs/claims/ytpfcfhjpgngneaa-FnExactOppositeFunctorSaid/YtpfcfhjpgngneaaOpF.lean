
/- The opposite of a functor: both sides. -/
import Derived.Test.YtpfcfhjpgngneaaFunM
import Derived.Test.YtpfcfhjpgngneaaFunL
import Derived.Test.YtpfcfhjpgngneaaOpp
set_option linter.unusedSimpArgs false
set_option linter.unusedVariables false
set_option linter.unusedSectionVars false
namespace Go.Proofs.Ytpfcfhjpgngneaa
open Go.RowKit


noncomputable def fOppositeFunctor (F : Fct) : Fct × Int := if fIsFunctor F = true then (⟨oppM F.S, oppM F.T, F.o, F.a⟩, 0) else (fct0, 1)
theorem opf_t {F : Fct} (h : fIsFunctor F = true) : fOppositeFunctor F = (⟨oppM F.S, oppM F.T, F.o, F.a⟩, 0) := if_pos h
theorem opf_f {F : Fct} (h : fIsFunctor F = false) : fOppositeFunctor F = (fct0, 1) := if_neg (by rw [h]; decide)
theorem mz_opp {c : Cat} (h : fIsCategory c = true) : mzC (oppM c) ≤ 1152921504606846 := by have := bound_OppositeCategory c; rwa [opp_t h] at this
theorem bound_OppositeFunctor (F : Fct) : mzF (fOppositeFunctor F).1 ≤ 3500000000000000 := by
  cases hI : fIsFunctor F with
  | false => rw [opf_f hI]; decide
  | true =>
    have hF := isf_of hI
    have h1 := mz_opp hF.cs; have h2 := mz_opp hF.ct
    have hS := (isCat_of hF.cs).toShapeP
    have hob8 := hS.ob8; have hn40 := hS.n40
    have lo := hF.lo; have la := hF.la
    rw [opf_t hI]
    show mzC (oppM F.S) + mzC (oppM F.T) + F.o.length + F.a.length ≤ _
    omega

set_option maxHeartbeats 1000000 in
set_option maxRecDepth 100000 in
theorem specOpF_any (w : World) (v : Value) (F : Fct) (h : RdF w v F) (hS : ShapeP F.S) (hT : ShapeP F.T) :
    Calls Try.prog 98 #[v] w (RetFn w ⟨oppM F.S, oppM F.T, F.o, F.a⟩) := by
  have h0 := h
  obtain ⟨vx1, vx2, vx3, vx4, vx5, vx6, vx7, vx8, vx9, vx10, vk1, vk2, vk3, vk4, vk5, vk6, vk7, vk8, vk9, vk10, rfl, h1, h2, h3, h4, h5, h6, h7, h8, h9, h10⟩ := h.lists
  go_enter Try.func98, Try.ntmps98
  refine gc_enter (N := 14) rfl (look_cons (k := 0) rfl (look_nil _)) ?_
  refine gc_seq fun K1 hK1 => ?_
  refine gc_region ?_
  refine g_op (.free rfl) fun K3 hK3 => ?_
  refine go_box rfl rfl rfl rfl rfl ?_
  intro B2
  refine hK3 _ _ ?_
  refine g_op (.free rfl) fun K5 hK5 => ?_
  refine go_alloc (z := (.agg #[.int .i64 0, .slice none 0 0, .slice none 0 0, .slice none 0 0, .slice none 0 0, .int .i64 0, .slice none 0 0, .slice none 0 0, .slice none 0 0, .slice none 0 0, .slice none 0 0, .slice none 0 0])) (cs := [.int .i64 0, .slice none 0 0, .slice none 0 0, .slice none 0 0, .slice none 0 0, .int .i64 0, .slice none 0 0, .slice none 0 0, .slice none 0 0, .slice none 0 0, .slice none 0 0, .slice none 0 0]) rfl rfl rfl (fun w => by kernel_rfl) rfl ?_
  intro B4
  refine hK5 _ _ ?_
  refine g_nil ?_
  refine gk_then (hK1 _ _ ?_)
  refine gc_seq fun K6 hK6 => ?_
  try simp only [List.nil_append, List.cons_append, List.append_assoc, List.set_cons_succ, List.set_cons_zero]
  refine ga_start _ (fun w M => mem_erase 1 (M)) ?_
  refine ga_v 0 rfl (by kernel_rfl) (by kernel_rfl) (by kernel_rfl) (.free rfl) rfl rfl (qt_field (z := 4) (off := 0) rfl rfl Try.underlying32 rfl (by kernel_rfl) rfl) (fun _ _ _ h => h) ?_
  refine ga_v 1 rfl (by kernel_rfl) (by kernel_rfl) (by kernel_rfl) (.free rfl) rfl rfl (qt_loadP (n := 0) (z := 5) rfl rfl Try.underlying30 rfl (by kernel_rfl) rfl (by first | decide | exact Nat.le_refl _ | simp)) (fun _ _ _ h => h) ?_
  refine ga_v 3 rfl (by kernel_rfl) (by kernel_rfl) (by kernel_rfl) (.free rfl) rfl rfl (qt_field (z := 4) (off := 5) rfl rfl Try.underlying32 rfl (by kernel_rfl) rfl) (fun _ _ _ h => h) ?_
  refine ga_v 4 rfl (by kernel_rfl) (by kernel_rfl) (by kernel_rfl) (.free rfl) rfl rfl (qt_loadP (n := 0) (z := 5) rfl rfl Try.underlying30 rfl (by kernel_rfl) rfl (by first | decide | exact Nat.le_refl _ | simp)) (fun _ _ _ h => h) ?_
  refine ga_v 6 rfl (by kernel_rfl) (by kernel_rfl) (by kernel_rfl) (.free rfl) rfl rfl (qt_field (z := 0) (off := 10) rfl rfl Try.underlying32 rfl (by kernel_rfl) rfl) (fun _ _ _ h => h) ?_
  refine ga_v 7 rfl (by kernel_rfl) (by kernel_rfl) (by kernel_rfl) (.free rfl) rfl rfl (qt_loadB (n := 0) rfl rfl Try.underlying22 rfl rfl rfl) (fun _ _ _ h => h) ?_
  refine ga_v 8 rfl (by kernel_rfl) (by kernel_rfl) (by kernel_rfl) (.free rfl) rfl rfl (qt_field (z := 0) (off := 11) rfl rfl Try.underlying32 rfl (by kernel_rfl) rfl) (fun _ _ _ h => h) ?_
  refine ga_v 9 rfl (by kernel_rfl) (by kernel_rfl) (by kernel_rfl) (.free rfl) rfl rfl (qt_loadB (n := 0) rfl rfl Try.underlying22 rfl rfl rfl) (fun _ _ _ h => h) ?_
  refine ga_op 2 (by kernel_rfl) rfl (.free rfl) fun K8 hK8 => ?_
  refine go_callC rfl rfl rfl Try.func136 rfl (by decide) rfl (fun w M => specOp_any w _ _ (rdC_mk (mem_rd M h1) (mem_rd M h2) (mem_rd M h3) (mem_rd2 M h4)) (by first | assumption | omega)) ?_
  intro ca7 cb7 cc7 cd7 ce7 cf7 cg7 ch7 cu7
  refine hK8 _ _ (fun w M => (mem_erase 1 (mem_take 2 M) :)) ?_
  refine ga_op 5 (by kernel_rfl) rfl (.free rfl) fun K10 hK10 => ?_
  refine go_callC rfl rfl rfl Try.func136 rfl (by decide) rfl (fun w M => specOp_any w _ _ (rdC_mk (mem_rd M h5) (mem_rd M h6) (mem_rd M h7) (mem_rd2 M h8)) (by first | assumption | omega)) ?_
  intro ca9 cb9 cc9 cd9 ce9 cf9 cg9 ch9 cu9
  refine hK10 _ _ (fun w M => (mem_erase 1 (mem_take 2 M) :)) ?_
  refine ga_op 10 (by kernel_rfl) rfl (.free rfl) fun K12 hK12 => ?_
  refine go_callFn rfl rfl rfl Try.func88 rfl (by decide) rfl (fun w M => specMakeF_any w _ (oppM F.S) (rdC_mk ((mem_own1 (n := 2) M rfl).rd) ((mem_own1 (n := 3) M rfl).rd) ((mem_own1 (n := 4) M rfl).rd) (mem_rdU (n := 5) M rfl)) _ (oppM F.T) (rdC_mk ((mem_own1 (n := 6) M rfl).rd) ((mem_own1 (n := 7) M rfl).rd) ((mem_own1 (n := 8) M rfl).rd) (mem_rdU (n := 9) M rfl)) _ _ _ _ (mem_rd M h9) (mem_rd M h10)) ?_
  intro fx1_11 fk1_11 fx2_11 fk2_11 fx3_11 fk3_11 fx4_11 fk4_11 fx5_11 fk5_11 fx6_11 fk6_11 fx7_11 fk7_11 fx8_11 fk8_11 fx9_11 fk9_11 fx10_11 fk10_11 us11 ut11
  refine hK12 _ _ (fun w M => (mem_erase 1 (mem_take 2 M) :)) ?_
  refine ga_op 11 (by kernel_rfl) rfl (.free rfl) fun K13 hK13 => ?_
  refine go_storeS (n := 1) rfl rfl rfl rfl (by kernel_rfl) rfl rfl rfl ?_
  refine hK13 _ _ (fun w M => (mem_erase 1 (mem_take 2 M) :)) ?_
  refine ga_done (by kernel_rfl) ?_
  refine gk_then (hK6 _ _ ?_)
  refine gc_ret ?_
  refine ret_S (n := 1) rfl rfl Try.underlying32 rfl (by kernel_rfl) rfl (fun w M => ?_)
  exact retFn_star (F := ⟨oppM F.S, oppM F.T, F.o, F.a⟩) (mem_block 10 10 (M))

set_option maxHeartbeats 1000000 in
set_option maxRecDepth 100000 in
theorem spec_OppositeFunctor (w : World) (v : Value) (F : Fct) (h : RdF w v F) :
    Calls Try.prog 49 #[v] w (RetFI w (fOppositeFunctor F).1 (fOppositeFunctor F).2) := by
  have h0 := h
  obtain ⟨vx1, vx2, vx3, vx4, vx5, vx6, vx7, vx8, vx9, vx10, vk1, vk2, vk3, vk4, vk5, vk6, vk7, vk8, vk9, vk10, rfl, h1, h2, h3, h4, h5, h6, h7, h8, h9, h10⟩ := h.lists
  go_enter Try.func49, Try.ntmps49
  refine gc_enter (N := 10) rfl (look_cons (k := 0) rfl (look_nil _)) ?_
  refine gc_seq fun K1 hK1 => ?_
  refine gc_region ?_
  refine g_op (.free rfl) fun K3 hK3 => ?_
  refine go_box rfl rfl rfl rfl rfl ?_
  intro B2
  refine hK3 _ _ ?_
  refine g_op (.free rfl) fun K5 hK5 => ?_
  refine go_alloc (z := (.agg #[.int .i64 0, .slice none 0 0, .slice none 0 0, .slice none 0 0, .slice none 0 0, .int .i64 0, .slice none 0 0, .slice none 0 0, .slice none 0 0, .slice none 0 0, .slice none 0 0, .slice none 0 0])) (cs := [.int .i64 0, .slice none 0 0, .slice none 0 0, .slice none 0 0, .slice none 0 0, .int .i64 0, .slice none 0 0, .slice none 0 0, .slice none 0 0, .slice none 0 0, .slice none 0 0, .slice none 0 0]) rfl rfl rfl (fun w => by kernel_rfl) rfl ?_
  intro B4
  refine hK5 _ _ ?_
  refine g_v (.free rfl) rfl rfl (qt_assign rfl rfl) ?_
  refine g_nil ?_
  refine gk_then (hK1 _ _ ?_)
  refine gc_seq fun K6 hK6 => ?_
  refine gc_seq fun K7 hK7 => ?_
  refine gc_region ?_
  refine g_v (.free rfl) rfl rfl (qt_loadS (n := 0) rfl rfl Try.underlying32 rfl (by kernel_rfl) rfl) ?_
  refine g_q (.free rfl) rfl rfl (qt_call rfl Try.func52 rfl (by decide) rfl (fun w M => specIsF_any w _ _ (mem_rdF M h0))) ?_
  refine g_v (.free rfl) rfl rfl (qt_not rfl rfl) ?_
  refine g_nil ?_
  refine gk_then (hK7 _ _ ?_)
  refine gc_cond rfl (fun hc0 => ?_) (fun hc0 => ?_)
  · try simp only [decide_eq_true_eq, decide_eq_false_iff_not, Bool.not_eq_true', Bool.not_eq_false', Bool.not_eq_eq_eq_not, Bool.not_true, Bool.not_false, ne_eq, Decidable.not_not, Classical.not_not] at hc0
    refine gc_seq fun K8 hK8 => ?_
    refine gc_region ?_
    refine g_v (.free rfl) rfl rfl (qt_build rfl rfl bt0_Functor) ?_
    refine g_op (.free rfl) fun K9 hK9 => ?_
    refine go_storeS (n := 1) rfl rfl rfl rfl (by kernel_rfl) rfl rfl rfl ?_
    refine hK9 _ _ ?_
    refine g_v (.free rfl) rfl rfl (qt_assign rfl rfl) ?_
    refine g_nil ?_
    refine gk_then (hK8 _ _ ?_)
    refine gc_ret ?_
    refine gk_then_ret ?_
    refine ret_SI (n := 1) rfl rfl rfl Try.underlying32 rfl (by kernel_rfl) rfl (fun w M => ?_)
    rw [opf_f hc0]; exact retFI_zero M.1
  · try simp only [decide_eq_true_eq, decide_eq_false_iff_not, Bool.not_eq_true', Bool.not_eq_false', Bool.not_eq_eq_eq_not, Bool.not_true, Bool.not_false, ne_eq, Decidable.not_not, Classical.not_not] at hc0
    refine gc_skip ?_
    refine gk_then (hK6 _ _ ?_)
    refine gc_seq fun K10 hK10 => ?_
    refine gc_region ?_
    refine g_v (.free rfl) rfl rfl (qt_loadS (n := 0) rfl rfl Try.underlying32 rfl (by kernel_rfl) rfl) ?_
    refine g_op (.free rfl) fun K12 hK12 => ?_
    refine go_callFn rfl rfl rfl Try.func98 rfl (by decide) rfl (fun w M => specOpF_any w _ _ (mem_rdF M h0) (isCat_of (isf_of hc0).cs).toShapeP (isCat_of (isf_of hc0).ct).toShapeP) ?_
    intro fx1_11 fk1_11 fx2_11 fk2_11 fx3_11 fk3_11 fx4_11 fk4_11 fx5_11 fk5_11 fx6_11 fk6_11 fx7_11 fk7_11 fx8_11 fk8_11 fx9_11 fk9_11 fx10_11 fk10_11 us11 ut11
    refine hK12 _ _ ?_
    refine g_op (.free rfl) fun K13 hK13 => ?_
    refine go_storeS (n := 1) rfl rfl rfl rfl (by kernel_rfl) rfl rfl rfl ?_
    refine hK13 _ _ ?_
    refine g_v (.free rfl) rfl rfl (qt_assign rfl rfl) ?_
    refine g_nil ?_
    refine gk_then (hK10 _ _ ?_)
    refine gc_ret ?_
    refine ret_SI (n := 1) rfl rfl rfl Try.underlying32 rfl (by kernel_rfl) rfl (fun w M => ?_)
    rw [opf_t hc0]; exact retFI_star (F := ⟨oppM F.S, oppM F.T, F.o, F.a⟩) (mem_block 2 10 (M))

set_option maxHeartbeats 1000000 in
set_option maxRecDepth 100000 in
theorem impl_OppositeFunctor (w : World) (v : Value) (F : Fct) (h : RdF w v F) :
    Calls Try.prog 50 #[v] w (RetFI w (fOppositeFunctor F).1 (fOppositeFunctor F).2) := by
  have h0 := h
  obtain ⟨vx1, vx2, vx3, vx4, vx5, vx6, vx7, vx8, vx9, vx10, vk1, vk2, vk3, vk4, vk5, vk6, vk7, vk8, vk9, vk10, rfl, h1, h2, h3, h4, h5, h6, h7, h8, h9, h10⟩ := h.lists
  go_enter Try.func50, Try.ntmps50
  refine gc_enter (N := 38) rfl (look_cons (k := 0) rfl (look_nil _)) ?_
  refine gc_seq fun K1 hK1 => ?_
  refine gc_region ?_
  refine g_op (.free rfl) fun K3 hK3 => ?_
  refine go_box rfl rfl rfl rfl rfl ?_
  intro B2
  refine hK3 _ _ ?_
  refine g_op (.free rfl) fun K5 hK5 => ?_
  refine go_alloc (z := (.agg #[.int .i64 0, .slice none 0 0, .slice none 0 0, .slice none 0 0, .slice none 0 0, .int .i64 0, .slice none 0 0, .slice none 0 0, .slice none 0 0, .slice none 0 0, .slice none 0 0, .slice none 0 0])) (cs := [.int .i64 0, .slice none 0 0, .slice none 0 0, .slice none 0 0, .slice none 0 0, .int .i64 0, .slice none 0 0, .slice none 0 0, .slice none 0 0, .slice none 0 0, .slice none 0 0, .slice none 0 0]) rfl rfl rfl (fun w => by kernel_rfl) rfl ?_
  intro B4
  refine hK5 _ _ ?_
  refine g_v (.free rfl) rfl rfl (qt_assign rfl rfl) ?_
  refine g_nil ?_
  refine gk_then (hK1 _ _ ?_)
  refine gc_seq fun K6 hK6 => ?_
  refine gc_region ?_
  refine g_v (.free rfl) rfl rfl (qt_loadS (n := 0) rfl rfl Try.underlying32 rfl (by kernel_rfl) rfl) ?_
  refine g_op (.free rfl) fun K8 hK8 => ?_
  refine go_callFI rfl rfl rfl Try.func90 rfl (by decide) rfl (fun w M => readFct_any w _ _ (mem_rdF M h0)) ?_
  intro fx1_7 fk1_7 fx2_7 fk2_7 fx3_7 fk3_7 fx4_7 fk4_7 fx5_7 fk5_7 fx6_7 fk6_7 fx7_7 fk7_7 fx8_7 fk8_7 fx9_7 fk9_7 fx10_7 fk10_7 us7 ut7
  refine hK8 _ _ ?_
  refine g_v (.free rfl) rfl rfl (qt_move rfl rfl) ?_
  refine g_v (.free rfl) rfl rfl (qt_extract rfl rfl rfl) ?_
  refine g_v (.free rfl) rfl rfl (qt_extract rfl rfl rfl) ?_
  refine g_op (.free rfl) fun K10 hK10 => ?_
  refine go_alloc (z := (.agg #[.int .i64 0, .slice none 0 0, .slice none 0 0, .slice none 0 0, .slice none 0 0, .int .i64 0, .slice none 0 0, .slice none 0 0, .slice none 0 0, .slice none 0 0, .slice none 0 0, .slice none 0 0])) (cs := [.int .i64 0, .slice none 0 0, .slice none 0 0, .slice none 0 0, .slice none 0 0, .int .i64 0, .slice none 0 0, .slice none 0 0, .slice none 0 0, .slice none 0 0, .slice none 0 0, .slice none 0 0]) rfl rfl rfl (fun w => by kernel_rfl) rfl ?_
  intro B9
  refine hK10 _ _ ?_
  refine g_op (.free rfl) fun K11 hK11 => ?_
  refine go_storeS (n := 12) rfl rfl rfl rfl (by kernel_rfl) rfl rfl rfl ?_
  refine hK11 _ _ ?_
  refine g_v (.free rfl) rfl rfl (qt_assign rfl rfl) ?_
  refine g_nil ?_
  refine gk_then (hK6 _ _ ?_)
  refine gc_seq fun K12 hK12 => ?_
  refine gc_seq fun K13 hK13 => ?_
  refine gc_region ?_
  refine g_v (.free rfl) rfl rfl (qt_move rfl rfl) ?_
  refine g_v (.free rfl) rfl rfl (qt_neq rfl rfl rfl) ?_
  refine g_nil ?_
  refine gk_then (hK13 _ _ ?_)
  refine gc_cond rfl (fun hc0 => ?_) (fun hc0 => ?_)
  · try simp only [decide_eq_true_eq, decide_eq_false_iff_not, Bool.not_eq_true', Bool.not_eq_false', Bool.not_eq_eq_eq_not, Bool.not_true, Bool.not_false, ne_eq, Decidable.not_not, Classical.not_not] at hc0
    refine gc_seq fun K14 hK14 => ?_
    refine gc_region ?_
    refine g_v (.free rfl) rfl rfl (qt_build rfl rfl bt0_Functor) ?_
    refine g_v (.free rfl) rfl rfl (qt_move rfl rfl) ?_
    refine g_op (.free rfl) fun K15 hK15 => ?_
    refine go_storeS (n := 1) rfl rfl rfl rfl (by kernel_rfl) rfl rfl rfl ?_
    refine hK15 _ _ ?_
    refine g_v (.free rfl) rfl rfl (qt_assign rfl rfl) ?_
    refine g_nil ?_
    refine gk_then (hK14 _ _ ?_)
    refine gc_ret ?_
    refine gk_then_ret ?_
    refine ret_SI (n := 1) rfl rfl rfl Try.underlying32 rfl (by kernel_rfl) rfl (fun w M => ?_)
    rw [(fctErr_n hc0).2.1, opf_f (fctErr_n hc0).1]; exact retFI_zero M.1
  · try simp only [decide_eq_true_eq, decide_eq_false_iff_not, Bool.not_eq_true', Bool.not_eq_false', Bool.not_eq_eq_eq_not, Bool.not_true, Bool.not_false, ne_eq, Decidable.not_not, Classical.not_not] at hc0
    refine gc_skip ?_
    refine gk_then (hK12 _ _ ?_)
    refine gc_seq fun K16 hK16 => ?_
    refine gc_region ?_
    refine g_v (.free rfl) rfl rfl (qt_field (z := 4) (off := 0) rfl rfl Try.underlying32 rfl (by kernel_rfl) rfl) ?_
    refine g_v (.free rfl) rfl rfl (qt_loadP (n := 12) (z := 5) rfl rfl Try.underlying30 rfl (by kernel_rfl) rfl (by first | decide | exact Nat.le_refl _ | simp)) ?_
    refine g_op (.free rfl) fun K18 hK18 => ?_
    refine go_callCI rfl rfl rfl Try.func99 rfl (by decide) rfl (fun w M => impl_OppositeCategory w _ _ (rdC_mk ((mem_own1 (n := 2) M rfl).rd) ((mem_own1 (n := 3) M rfl).rd) ((mem_own1 (n := 4) M rfl).rd) (mem_rdU (n := 5) M rfl))) ?_
    intro ca17 cb17 cc17 cd17 ce17 cf17 cg17 ch17 cu17
    refine hK18 _ _ ?_
    refine g_v (.free rfl) rfl rfl (qt_move rfl rfl) ?_
    refine g_v (.free rfl) rfl rfl (qt_extract rfl rfl rfl) ?_
    refine g_v (.free rfl) rfl rfl (qt_extract rfl rfl rfl) ?_
    refine g_op (.free rfl) fun K20 hK20 => ?_
    refine go_alloc (z := (.agg #[.int .i64 0, .slice none 0 0, .slice none 0 0, .slice none 0 0, .slice none 0 0])) (cs := [.int .i64 0, .slice none 0 0, .slice none 0 0, .slice none 0 0, .slice none 0 0]) rfl rfl rfl (fun w => by kernel_rfl) rfl ?_
    intro B19
    refine hK20 _ _ ?_
    refine g_op (.free rfl) fun K21 hK21 => ?_
    refine go_storeS (n := 17) rfl rfl rfl rfl (by kernel_rfl) rfl rfl rfl ?_
    refine hK21 _ _ ?_
    refine g_v (.free rfl) rfl rfl (qt_assign rfl rfl) ?_
    refine g_nil ?_
    refine gk_then (hK16 _ _ ?_)
    refine gc_seq fun K22 hK22 => ?_
    refine gc_region ?_
    refine g_v (.free rfl) rfl rfl (qt_field (z := 4) (off := 5) rfl rfl Try.underlying32 rfl (by kernel_rfl) rfl) ?_
    refine g_v (.free rfl) rfl rfl (qt_loadP (n := 12) (z := 5) rfl rfl Try.underlying30 rfl (by kernel_rfl) rfl (by first | decide | exact Nat.le_refl _ | simp)) ?_
    refine g_op (.free rfl) fun K24 hK24 => ?_
    refine go_callCI rfl rfl rfl Try.func99 rfl (by decide) rfl (fun w M => impl_OppositeCategory w _ _ (rdC_mk ((mem_own1 (n := 6) M rfl).rd) ((mem_own1 (n := 7) M rfl).rd) ((mem_own1 (n := 8) M rfl).rd) (mem_rdU (n := 9) M rfl))) ?_
    intro ca23 cb23 cc23 cd23 ce23 cf23 cg23 ch23 cu23
    refine hK24 _ _ ?_
    refine g_v (.free rfl) rfl rfl (qt_move rfl rfl) ?_
    refine g_v (.free rfl) rfl rfl (qt_extract rfl rfl rfl) ?_
    refine g_v (.free rfl) rfl rfl (qt_extract rfl rfl rfl) ?_
    refine g_op (.free rfl) fun K26 hK26 => ?_
    refine go_alloc (z := (.agg #[.int .i64 0, .slice none 0 0, .slice none 0 0, .slice none 0 0, .slice none 0 0])) (cs := [.int .i64 0, .slice none 0 0, .slice none 0 0, .slice none 0 0, .slice none 0 0]) rfl rfl rfl (fun w => by kernel_rfl) rfl ?_
    intro B25
    refine hK26 _ _ ?_
    refine g_op (.free rfl) fun K27 hK27 => ?_
    refine go_storeS (n := 22) rfl rfl rfl rfl (by kernel_rfl) rfl rfl rfl ?_
    refine hK27 _ _ ?_
    refine g_v (.free rfl) rfl rfl (qt_assign rfl rfl) ?_
    refine g_nil ?_
    refine gk_then (hK22 _ _ ?_)
    refine gc_seq fun K28 hK28 => ?_
    refine gc_region ?_
    refine g_v (.free rfl) rfl rfl (qt_loadS (n := 17) rfl rfl Try.underlying30 rfl (by kernel_rfl) rfl) ?_
    refine g_v (.free rfl) rfl rfl (qt_loadS (n := 22) rfl rfl Try.underlying30 rfl (by kernel_rfl) rfl) ?_
    refine g_v (.free rfl) rfl rfl (qt_field (z := 0) (off := 10) rfl rfl Try.underlying32 rfl (by kernel_rfl) rfl) ?_
    refine g_v (.free rfl) rfl rfl (qt_loadB (n := 12) rfl rfl Try.underlying22 rfl rfl rfl) ?_
    refine g_v (.free rfl) rfl rfl (qt_field (z := 0) (off := 11) rfl rfl Try.underlying32 rfl (by kernel_rfl) rfl) ?_
    refine g_v (.free rfl) rfl rfl (qt_loadB (n := 12) rfl rfl Try.underlying22 rfl rfl rfl) ?_
    refine g_v (.free rfl) rfl rfl (qt_build rfl rfl bt_Functor) ?_
    refine g_op (.free rfl) fun K29 hK29 => ?_
    refine go_storeS (n := 1) rfl rfl rfl rfl (by kernel_rfl) rfl rfl rfl ?_
    refine hK29 _ _ ?_
    refine g_v (.free rfl) rfl rfl (qt_assign rfl rfl) ?_
    refine g_nil ?_
    refine gk_then (hK28 _ _ ?_)
    refine gc_ret ?_
    refine ret_SI (n := 1) rfl rfl rfl Try.underlying32 rfl (by kernel_rfl) rfl (fun w M => ?_)
    have hF := isf_of (fctErr_0 hc0)
    rw [opf_t (fctErr_0 hc0)]
    have e := (fctErr_t (fctErr_0 hc0)).2
    have M2 := mem_block 17 4 (mem_block 18 4 (mem_block 10 2 (M)))
    simp only [e, opp_t hF.cs, opp_t hF.ct] at M2 ⊢
    exact retFI_star (F := ⟨oppM F.S, oppM F.T, F.o, F.a⟩) M2

end Go.Proofs.Ytpfcfhjpgngneaa
