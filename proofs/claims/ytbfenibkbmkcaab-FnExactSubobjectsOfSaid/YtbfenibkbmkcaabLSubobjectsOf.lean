
/- The exact law of SubobjectsOf: its model and its program do the same, in memory of their own. Written by wip/tools/genlaw.py. -/
import Derived.Test.YtbfenibkbmkcaabBase
import Derived.Test.YtbfenibkbmkcaabLawC
import Derived.Test.YtbfenibkbmkcaabRul4
import Derived.Test.YtbfenibkbmkcaabKinQ
set_option linter.unusedSimpArgs false
set_option linter.unusedVariables false
set_option linter.unusedSectionVars false
namespace Go.Proofs.Ytbfenibkbmkcaab.exactSubobjectsOf
open Go.ChangeShapes Go.WideShapes Go.ChangeAt Go.RowKit
set_option maxHeartbeats 4000000 in
set_option maxRecDepth 100000 in
theorem main (w : World) (v0 : Value) (a0 : Cat) (a1 : Int) (r0 : List (List Int)) (r1 : Int) (h0 : InC w v0 a0) (l0 : szM a0 ≤ 1048576) (hr0 : offR r0 r0.length ≤ 1152921504606846) (hspec : (∀ (w : World) (v0 : Value), RdC w v0 a0 → Calls Try.prog 19 #[v0, (.int .i64 a1)] w (RetRI w r0 r1))) (himpl : (∀ (w : World) (v0 : Value), RdC w v0 a0 → Calls Try.prog 21 #[v0, (.int .i64 a1)] w (RetRI w r0 r1))) :
    Calls Try.prog 5 #[v0, .int .i64 a1] w (RetB w true) := by
  have R0 := h0.rd (by omega)
  have I0 := h0
  obtain ⟨pa0, pb0, pc0, pd0, pe0, pf0, pg0, ph0, rfl⟩ := h0.form
  have mz0 := mz_le a0
  go_enter Try.func5, Try.ntmps5
  refine gc_enter (N := 101) rfl (look_cons (k := 0) rfl (look_cons (k := 1) rfl (look_nil _))) ?_
  refine gc_seq fun K1 hK1 => ?_
  refine gc_region ?_
  refine g_op (.free rfl) fun K3 hK3 => ?_
  refine go_box rfl rfl rfl rfl rfl ?_
  intro B2
  refine hK3 _ _ ?_
  refine g_v (.free rfl) rfl rfl (qt_assign rfl rfl) ?_
  refine g_nil ?_
  refine gk_then (hK1 _ _ ?_)
  refine gc_seq fun K4 hK4 => ?_
  refine gc_region ?_
  refine g_v (.free rfl) rfl rfl (qt_assign rfl rfl) ?_
  refine g_nil ?_
  refine gk_then (hK4 _ _ ?_)
  refine gc_seq fun K5 hK5 => ?_
  refine gc_region ?_
  refine g_v (.free rfl) rfl rfl (qt_loadS (n := 0) rfl rfl Try.underlying36 rfl (by kernel_rfl) rfl) ?_
  refine g_v (.free rfl) rfl rfl (qt_move rfl rfl) ?_
  refine g_q (.free rfl) rfl rfl (qt_call rfl Try.func18 rfl (by decide) rfl (fun w M => szC_le w _ _ _ (inC_below M.1 I0) (by first | assumption | omega) (by first | assumption | omega) (by first | assumption | omega))) ?_
  refine g_v (.free rfl) rfl rfl (qt_assign rfl rfl) ?_
  refine g_nil ?_
  refine gk_then (hK5 _ _ ?_)
  refine gc_seq fun K6 hK6 => ?_
  refine gc_seq fun K7 hK7 => ?_
  refine gc_region ?_
  refine g_v (.free rfl) rfl rfl (qt_move rfl rfl) ?_
  refine g_v (.free rfl) rfl rfl (qt_lss rfl rfl rfl) ?_
  refine g_nil ?_
  refine gk_then (hK7 _ _ ?_)
  refine gc_cond rfl (fun hc0 => ?_) (fun hc0 => ?_)
  · try simp only [decide_eq_true_eq, decide_eq_false_iff_not, Bool.not_eq_true', Bool.not_eq_false', Bool.not_eq_eq_eq_not, Bool.not_true, Bool.not_false, ne_eq, Decidable.not_not, Classical.not_not] at hc0
    first | (exfalso; omega) | exact absurd rfl hc0 | (simp at hc0)
  · try simp only [decide_eq_true_eq, decide_eq_false_iff_not, Bool.not_eq_true', Bool.not_eq_false', Bool.not_eq_eq_eq_not, Bool.not_true, Bool.not_false, ne_eq, Decidable.not_not, Classical.not_not] at hc0
    refine gc_skip ?_
    refine gk_then (hK6 _ _ ?_)
    refine gc_seq fun K8 hK8 => ?_
    refine gc_region ?_
    refine g_v (.free rfl) rfl rfl (qt_loadS (n := 0) rfl rfl Try.underlying36 rfl (by kernel_rfl) rfl) ?_
    refine g_op (.free rfl) fun K10 hK10 => ?_
    refine go_callC1 rfl rfl rfl Try.func20 rfl (by decide) rfl (fun w M => toC_any w _ _ (mem_rdC M R0)) ?_
    intro ca9 cb9 cc9 cd9 ce9 cf9 cg9 ch9
    refine hK10 _ _ ?_
    refine g_v (.free rfl) rfl rfl (qt_move rfl rfl) ?_
    refine g_op (.free rfl) fun K12 hK12 => ?_
    refine go_callRI1 rfl rfl rfl Try.func19 rfl (by decide) rfl (fun w M => hspec w _ ((mem_ownC (n := 1) M rfl).rd)) ?_
    intro ca11 cb11
    refine hK12 _ _ ?_
    refine g_v (.free rfl) rfl rfl (qt_move rfl rfl) ?_
    refine g_v (.free rfl) rfl rfl (qt_extract rfl rfl rfl) ?_
    refine g_v (.free rfl) rfl rfl (qt_extract rfl rfl rfl) ?_
    refine g_v (.free rfl) rfl rfl (qt_assign rfl rfl) ?_
    refine g_v (.free rfl) rfl rfl (qt_assign rfl rfl) ?_
    refine g_nil ?_
    refine gk_then (hK8 _ _ ?_)
    refine gc_seq fun K13 hK13 => ?_
    refine gc_region ?_
    refine g_v (.free rfl) rfl rfl (qt_loadS (n := 0) rfl rfl Try.underlying36 rfl (by kernel_rfl) rfl) ?_
    refine g_op (.free rfl) fun K15 hK15 => ?_
    refine go_callC1 rfl rfl rfl Try.func20 rfl (by decide) rfl (fun w M => toC_any w _ _ (mem_rdC M R0)) ?_
    intro ca14 cb14 cc14 cd14 ce14 cf14 cg14 ch14
    refine hK15 _ _ ?_
    refine g_op (.free rfl) fun K17 hK17 => ?_
    refine go_alloc (z := (.agg #[.int .i64 0, .slice none 0 0, .slice none 0 0, .slice none 0 0, .slice none 0 0])) (cs := [.int .i64 0, .slice none 0 0, .slice none 0 0, .slice none 0 0, .slice none 0 0]) rfl rfl rfl (fun w => by kernel_rfl) rfl ?_
    intro B16
    refine hK17 _ _ ?_
    refine g_op (.free rfl) fun K18 hK18 => ?_
    refine go_storeS (n := 4) rfl rfl rfl rfl (by kernel_rfl) rfl rfl rfl ?_
    refine hK18 _ _ ?_
    refine g_nil ?_
    refine gk_then (hK13 _ _ ?_)
    refine gc_seq fun K19 hK19 => ?_
    refine gc_region ?_
    refine g_v (.free rfl) rfl rfl (qt_loadS (n := 4) rfl rfl Try.underlying25 rfl (by kernel_rfl) rfl) ?_
    refine g_v (.free rfl) rfl rfl (qt_move rfl rfl) ?_
    refine g_op (.free rfl) fun K21 hK21 => ?_
    refine go_callRI1 rfl rfl rfl Try.func21 rfl (by decide) rfl (fun w M => himpl w _ ((mem_ownC (n := 3) M rfl).rd)) ?_
    intro ca20 cb20
    refine hK21 _ _ ?_
    refine g_v (.free rfl) rfl rfl (qt_move rfl rfl) ?_
    refine g_v (.free rfl) rfl rfl (qt_extract rfl rfl rfl) ?_
    refine g_v (.free rfl) rfl rfl (qt_extract rfl rfl rfl) ?_
    refine g_v (.free rfl) rfl rfl (qt_assign rfl rfl) ?_
    refine g_v (.free rfl) rfl rfl (qt_assign rfl rfl) ?_
    refine g_nil ?_
    refine gk_then (hK19 _ _ ?_)
    refine gc_seq fun K22 hK22 => ?_
    refine gc_seq fun K23 hK23 => ?_
    refine gc_region ?_
    refine g_v (.free rfl) rfl rfl (qt_move rfl rfl) ?_
    refine g_v (.free rfl) rfl rfl (qt_move rfl rfl) ?_
    refine g_q (.free rfl) rfl rfl (qt_call rfl Try.func16 rfl (by decide) rfl (fun w M => eq2_refl_any w _ _ _ (sl2_rd (mem_own2 (n := 5) M rfl)) (sl2_rd (mem_own2 (n := 2) M rfl)))) ?_
    refine g_v (.free rfl) rfl rfl (qt_not rfl rfl) ?_
    refine g_v (.free rfl) rfl rfl (qt_move rfl rfl) ?_
    refine g_v (.held _ _ _ rfl rfl rfl) rfl rfl (qt_move rfl rfl) ?_
    refine g_v (.held _ _ _ rfl rfl rfl) rfl rfl (qt_move rfl rfl) ?_
    refine g_v (.held _ _ _ rfl rfl rfl) rfl rfl (qt_neq_f rfl rfl rfl (fun h => h rfl)) ?_
    refine g_v (.free rfl) rfl rfl (qt_pick_f rfl rfl rfl) ?_
    refine g_nil ?_
    refine gk_then (hK23 _ _ ?_)
    refine gc_cond_f rfl ?_
    refine gc_skip ?_
    refine gk_then (hK22 _ _ ?_)
    refine gc_seq fun K24 hK24 => ?_
    refine gc_seq fun K25 hK25 => ?_
    try simp only [List.nil_append, List.cons_append, List.append_assoc, List.set_cons_succ, List.set_cons_zero]
    refine ga_start _ (fun w M => M) ?_
    refine ga_v 0 rfl (by kernel_rfl) (by kernel_rfl) (by kernel_rfl) (.free rfl) rfl rfl (qt_loadS (n := 4) rfl rfl Try.underlying25 rfl (by kernel_rfl) rfl) (fun _ _ _ h => h) ?_
    refine ga_v 1 rfl (by kernel_rfl) (by kernel_rfl) (by kernel_rfl) (.free rfl) rfl rfl (qt_loadS (n := 0) rfl rfl Try.underlying36 rfl (by kernel_rfl) rfl) (fun _ _ _ h => h) ?_
    refine ga_op 2 (by kernel_rfl) rfl (.free rfl) fun K27 hK27 => ?_
    refine go_callC1 rfl rfl rfl Try.func20 rfl (by decide) rfl (fun w M => toC_any w _ _ (mem_rdC M R0)) ?_
    intro ca26 cb26 cc26 cd26 ce26 cf26 cg26 ch26
    refine hK27 _ _ (fun w M => (mem_take 6 M :)) ?_
    refine ga_op 3 (by kernel_rfl) rfl (.free rfl) fun K28 hK28 => ?_
    refine go_q rfl rfl (qt_call rfl Try.func9 rfl (by decide) rfl (fun w M => eqC_refl_any w _ _ _ ((mem_ownC (n := 3) M rfl).rd) ((mem_ownC (n := 6) M rfl).rd))) ?_
    refine hK28 _ _ (fun w M => (mem_take 6 M :)) ?_
    refine ga_v 4 rfl (by kernel_rfl) (by kernel_rfl) (by kernel_rfl) (.free rfl) rfl rfl (qt_not rfl rfl) (fun _ _ _ h => h) ?_
    refine ga_done (by kernel_rfl) ?_
    refine gk_then (hK25 _ _ ?_)
    refine gc_cond_f rfl ?_
    refine gc_skip ?_
    refine gk_then (hK24 _ _ ?_)
    refine gc_seq fun K29 hK29 => ?_
    refine gc_region ?_
    refine g_v (.free rfl) rfl rfl (qt_assign rfl rfl) ?_
    refine g_nil ?_
    refine gk_then (hK29 _ _ ?_)
    refine gc_seq fun K30 hK30 => ?_
    refine gc_region ?_
    refine g_v (.free rfl) rfl rfl (qt_loadS (n := 4) rfl rfl Try.underlying25 rfl (by kernel_rfl) rfl) ?_
    refine g_v (.free rfl) rfl rfl (qt_move rfl rfl) ?_
    refine g_op (.free rfl) fun K31 hK31 => ?_
    refine go_mark (ownCI _ (mkC _ _)) (n := 3) rfl rfl rfl Try.func10 rfl (by decide) rfl rfl (fun w S hS => markC_any w S _ _ _ hS (by omega) (by omega)) ?_
    refine hK31 _ _ ?_
    refine g_v (.free rfl) rfl rfl (qt_assign rfl rfl) ?_
    refine g_nil ?_
    refine gk_then (hK30 _ _ ?_)
    refine gc_seq fun K32 hK32 => ?_
    refine gc_seq fun K33 hK33 => ?_
    refine gc_region ?_
    refine g_v (.free rfl) rfl rfl (qt_move rfl rfl) ?_
    refine g_v (.free rfl) rfl rfl (qt_lss rfl rfl rfl) ?_
    refine g_splitv (.free rfl) rfl rfl (qt_move rfl rfl) (fun hs14_2 => ?_) (fun hs14_2 => ?_)
    · try simp only [decide_eq_true_eq, decide_eq_false_iff_not, Bool.not_eq_true', Bool.not_eq_false', Bool.not_eq_eq_eq_not, Bool.not_true, Bool.not_false, ne_eq, Decidable.not_not, Classical.not_not] at hs14_2
      first | (exfalso; omega) | exact absurd rfl hs14_2 | (simp at hs14_2)
    · try simp only [decide_eq_true_eq, decide_eq_false_iff_not, Bool.not_eq_true', Bool.not_eq_false', Bool.not_eq_eq_eq_not, Bool.not_true, Bool.not_false, ne_eq, Decidable.not_not, Classical.not_not] at hs14_2
      refine g_v (.held _ _ _ rfl rfl rfl) rfl rfl (qt_move rfl rfl) ?_
      refine g_v (.held _ _ _ rfl rfl rfl) rfl rfl (qt_move rfl rfl) ?_
      refine g_q (.held _ _ _ rfl rfl rfl) rfl rfl (qt_call rfl Try.func16 rfl (by decide) rfl (fun w M => eq2_refl_any w _ _ _ (sl2_rd (mem_own2 (n := 5) M rfl)) (sl2_rd (mem_own2 (n := 2) M rfl)))) ?_
      refine g_v (.held _ _ _ rfl rfl rfl) rfl rfl (qt_not rfl rfl) ?_
      refine g_v (.free rfl) rfl rfl (qt_pick_f rfl rfl rfl) ?_
      refine g_v (.free rfl) rfl rfl (qt_move rfl rfl) ?_
      refine g_v (.held _ _ _ rfl rfl rfl) rfl rfl (qt_move rfl rfl) ?_
      refine g_v (.held _ _ _ rfl rfl rfl) rfl rfl (qt_move rfl rfl) ?_
      refine g_v (.held _ _ _ rfl rfl rfl) rfl rfl (qt_neq_f rfl rfl rfl (fun h => h rfl)) ?_
      refine g_v (.free rfl) rfl rfl (qt_pick_f rfl rfl rfl) ?_
      refine g_nil ?_
      refine gk_then (hK33 _ _ ?_)
      refine gc_cond_f rfl ?_
      refine gc_skip ?_
      refine gk_then (hK32 _ _ ?_)
      refine gc_seq fun K34 hK34 => ?_
      refine gc_region ?_
      refine g_v (.free rfl) rfl rfl (qt_assign rfl rfl) ?_
      refine g_nil ?_
      refine gk_then (hK34 _ _ ?_)
      refine gc_seq fun K35 hK35 => ?_
      refine gc_region ?_
      refine g_v (.free rfl) rfl rfl (qt_move rfl rfl) ?_
      refine g_v (.free rfl) rfl rfl (qt_move rfl rfl) ?_
      refine g_op (.free rfl) fun K36 hK36 => ?_
      refine go_mark (own2I _ (mk2 _ _ _)) (n := 5) rfl rfl rfl Try.func17 rfl (by decide) rfl rfl (fun w S hS => markS2_any w S _ _ _ hS (by omega) (by omega)) ?_
      refine hK36 _ _ ?_
      refine g_v (.free rfl) rfl rfl (qt_assign rfl rfl) ?_
      refine g_nil ?_
      refine gk_then (hK35 _ _ ?_)
      refine gc_seq fun K37 hK37 => ?_
      refine gc_region ?_
      refine g_v (.free rfl) rfl rfl (qt_assign rfl rfl) ?_
      refine g_nil ?_
      refine gk_then (hK37 _ _ ?_)
      refine gc_seq fun K38 hK38 => ?_
      refine gc_region ?_
      refine g_v (.free rfl) rfl rfl (qt_move rfl rfl) ?_
      refine g_v (.free rfl) rfl rfl (qt_move rfl rfl) ?_
      refine g_q (.free rfl) rfl rfl (qt_call rfl Try.func22 rfl (by decide) rfl (fun w M => held2_any w _ _ _ (sl2_rd (mem_own2 (n := 5) M rfl)) (by first | assumption | omega) (by first | assumption | omega))) ?_
      refine g_v (.free rfl) rfl rfl (qt_assign rfl rfl) ?_
      refine g_nil ?_
      refine gk_then (hK38 _ _ ?_)
      refine gc_seq fun K39 hK39 => ?_
      refine gc_seq fun K40 hK40 => ?_
      refine gc_region ?_
      refine g_v (.free rfl) rfl rfl (qt_move rfl rfl) ?_
      refine g_v (.free rfl) rfl rfl (qt_lss rfl rfl rfl) ?_
      refine g_nil ?_
      refine gk_then (hK40 _ _ ?_)
      refine gc_cond rfl (fun hc1 => ?_) (fun hc1 => ?_)
      · try simp only [decide_eq_true_eq, decide_eq_false_iff_not, Bool.not_eq_true', Bool.not_eq_false', Bool.not_eq_eq_eq_not, Bool.not_true, Bool.not_false, ne_eq, Decidable.not_not, Classical.not_not] at hc1
        first | (exfalso; omega) | exact absurd rfl hc1 | (simp at hc1)
      · try simp only [decide_eq_true_eq, decide_eq_false_iff_not, Bool.not_eq_true', Bool.not_eq_false', Bool.not_eq_eq_eq_not, Bool.not_true, Bool.not_false, ne_eq, Decidable.not_not, Classical.not_not] at hc1
        refine gc_skip ?_
        refine gk_then (hK39 _ _ ?_)
        refine gc_seq fun K41 hK41 => ?_
        refine gc_seq fun K42 hK42 => ?_
        refine gc_region ?_
        refine g_v (.free rfl) rfl rfl (qt_move rfl rfl) ?_
        refine g_v (.free rfl) rfl rfl (qt_move rfl rfl) ?_
        refine g_v (.free rfl) rfl rfl (qt_neq rfl rfl rfl) ?_
        refine g_nil ?_
        refine gk_then (hK42 _ _ ?_)
        refine gc_cond rfl (fun hc2 => ?_) (fun hc2 => ?_)
        · try simp only [decide_eq_true_eq, decide_eq_false_iff_not, Bool.not_eq_true', Bool.not_eq_false', Bool.not_eq_eq_eq_not, Bool.not_true, Bool.not_false, ne_eq, Decidable.not_not, Classical.not_not] at hc2
          first | (exfalso; omega) | exact absurd rfl hc2 | (simp at hc2)
        · try simp only [decide_eq_true_eq, decide_eq_false_iff_not, Bool.not_eq_true', Bool.not_eq_false', Bool.not_eq_eq_eq_not, Bool.not_true, Bool.not_false, ne_eq, Decidable.not_not, Classical.not_not] at hc2
          refine gc_skip ?_
          refine gk_then (hK41 _ _ ?_)
          refine gc_seq fun K43 hK43 => ?_
          refine gc_region ?_
          refine g_v (.free rfl) rfl rfl (qt_loadS (n := 0) rfl rfl Try.underlying36 rfl (by kernel_rfl) rfl) ?_
          refine g_op (.free rfl) fun K45 hK45 => ?_
          refine go_callC1 rfl rfl rfl Try.func20 rfl (by decide) rfl (fun w M => toC_any w _ _ (mem_rdC M R0)) ?_
          intro ca44 cb44 cc44 cd44 ce44 cf44 cg44 ch44
          refine hK45 _ _ ?_
          refine g_v (.free rfl) rfl rfl (qt_move rfl rfl) ?_
          refine g_op (.free rfl) fun K47 hK47 => ?_
          refine go_callRI1 rfl rfl rfl Try.func21 rfl (by decide) rfl (fun w M => himpl w _ ((mem_ownC (n := 7) M rfl).rd)) ?_
          intro ca46 cb46
          refine hK47 _ _ ?_
          refine g_v (.free rfl) rfl rfl (qt_move rfl rfl) ?_
          refine g_v (.free rfl) rfl rfl (qt_extract rfl rfl rfl) ?_
          refine g_v (.free rfl) rfl rfl (qt_extract rfl rfl rfl) ?_
          refine g_v (.free rfl) rfl rfl (qt_assign rfl rfl) ?_
          refine g_v (.free rfl) rfl rfl (qt_assign rfl rfl) ?_
          refine g_nil ?_
          refine gk_then (hK43 _ _ ?_)
          refine gc_seq fun K48 hK48 => ?_
          refine gc_seq fun K49 hK49 => ?_
          refine gc_region ?_
          refine g_v (.free rfl) rfl rfl (qt_move rfl rfl) ?_
          refine g_v (.free rfl) rfl rfl (qt_move rfl rfl) ?_
          refine g_q (.free rfl) rfl rfl (qt_call rfl Try.func16 rfl (by decide) rfl (fun w M => eq2_refl_any w _ _ _ (sl2_rd (mem_own2 (n := 8) M rfl)) (sl2_rd (mem_own2 (n := 2) M rfl)))) ?_
          refine g_v (.free rfl) rfl rfl (qt_not rfl rfl) ?_
          refine g_v (.free rfl) rfl rfl (qt_move rfl rfl) ?_
          refine g_v (.held _ _ _ rfl rfl rfl) rfl rfl (qt_move rfl rfl) ?_
          refine g_v (.held _ _ _ rfl rfl rfl) rfl rfl (qt_move rfl rfl) ?_
          refine g_v (.held _ _ _ rfl rfl rfl) rfl rfl (qt_neq_f rfl rfl rfl (fun h => h rfl)) ?_
          refine g_v (.free rfl) rfl rfl (qt_pick_f rfl rfl rfl) ?_
          refine g_nil ?_
          refine gk_then (hK49 _ _ ?_)
          refine gc_cond_f rfl ?_
          refine gc_skip ?_
          refine gk_then (hK48 _ _ ?_)
          refine gc_seq fun K50 hK50 => ?_
          refine gc_region ?_
          refine g_v (.free rfl) rfl rfl (qt_assign rfl rfl) ?_
          refine g_nil ?_
          refine gk_then (hK50 _ _ ?_)
          refine gc_seq fun K51 hK51 => ?_
          refine gc_region ?_
          refine g_v (.free rfl) rfl rfl (qt_move rfl rfl) ?_
          refine g_v (.free rfl) rfl rfl (qt_move rfl rfl) ?_
          refine g_q (.free rfl) rfl rfl (qt_call rfl Try.func22 rfl (by decide) rfl (fun w M => held2_any w _ _ _ (sl2_rd (mem_own2 (n := 5) M rfl)) (by first | assumption | omega) (by first | assumption | omega))) ?_
          refine g_v (.free rfl) rfl rfl (qt_assign rfl rfl) ?_
          refine g_nil ?_
          refine gk_then (hK51 _ _ ?_)
          refine gc_seq fun K52 hK52 => ?_
          refine gc_seq fun K53 hK53 => ?_
          refine gc_region ?_
          refine g_v (.free rfl) rfl rfl (qt_move rfl rfl) ?_
          refine g_v (.free rfl) rfl rfl (qt_lss rfl rfl rfl) ?_
          refine g_nil ?_
          refine gk_then (hK53 _ _ ?_)
          refine gc_cond rfl (fun hc3 => ?_) (fun hc3 => ?_)
          · try simp only [decide_eq_true_eq, decide_eq_false_iff_not, Bool.not_eq_true', Bool.not_eq_false', Bool.not_eq_eq_eq_not, Bool.not_true, Bool.not_false, ne_eq, Decidable.not_not, Classical.not_not] at hc3
            first | (exfalso; omega) | exact absurd rfl hc3 | (simp at hc3)
          · try simp only [decide_eq_true_eq, decide_eq_false_iff_not, Bool.not_eq_true', Bool.not_eq_false', Bool.not_eq_eq_eq_not, Bool.not_true, Bool.not_false, ne_eq, Decidable.not_not, Classical.not_not] at hc3
            refine gc_skip ?_
            refine gk_then (hK52 _ _ ?_)
            refine gc_seq fun K54 hK54 => ?_
            refine gc_seq fun K55 hK55 => ?_
            refine gc_region ?_
            refine g_v (.free rfl) rfl rfl (qt_move rfl rfl) ?_
            refine g_v (.free rfl) rfl rfl (qt_move rfl rfl) ?_
            refine g_v (.free rfl) rfl rfl (qt_neq rfl rfl rfl) ?_
            refine g_nil ?_
            refine gk_then (hK55 _ _ ?_)
            refine gc_cond rfl (fun hc4 => ?_) (fun hc4 => ?_)
            · try simp only [decide_eq_true_eq, decide_eq_false_iff_not, Bool.not_eq_true', Bool.not_eq_false', Bool.not_eq_eq_eq_not, Bool.not_true, Bool.not_false, ne_eq, Decidable.not_not, Classical.not_not] at hc4
              first | (exfalso; omega) | exact absurd rfl hc4 | (simp at hc4)
            · try simp only [decide_eq_true_eq, decide_eq_false_iff_not, Bool.not_eq_true', Bool.not_eq_false', Bool.not_eq_eq_eq_not, Bool.not_true, Bool.not_false, ne_eq, Decidable.not_not, Classical.not_not] at hc4
              refine gc_skip ?_
              refine gk_then (hK54 _ _ ?_)
              refine gc_seq fun K56 hK56 => ?_
              refine gc_region ?_
              refine g_v (.free rfl) rfl rfl (qt_assign rfl rfl) ?_
              refine g_nil ?_
              refine gk_then (hK56 _ _ ?_)
              refine gc_ret ?_
              refine ret_1 rfl rfl  (fun w M => ?_)
              exact ⟨rfl, M.1⟩

set_option maxHeartbeats 1000000 in
set_option maxRecDepth 100000 in
theorem big0 (w : World) (v0 : Value) (a0 : Cat) (a1 : Int) (r0 : List (List Int)) (r1 : Int) (h0 : InC w v0 a0) (nl : ¬ (szM a0 ≤ 1048576)) :
    Calls Try.prog 5 #[v0, .int .i64 a1] w (RetB w true) := by
  have I0 := h0
  obtain ⟨pa0, pb0, pc0, pd0, pe0, pf0, pg0, ph0, rfl⟩ := h0.form
  have mz0 := mz_le a0
  go_enter Try.func5, Try.ntmps5
  refine gc_enter (N := 101) rfl (look_cons (k := 0) rfl (look_cons (k := 1) rfl (look_nil _))) ?_
  refine gc_seq fun K1 hK1 => ?_
  refine gc_region ?_
  refine g_op (.free rfl) fun K3 hK3 => ?_
  refine go_box rfl rfl rfl rfl rfl ?_
  intro B2
  refine hK3 _ _ ?_
  refine g_v (.free rfl) rfl rfl (qt_assign rfl rfl) ?_
  refine g_nil ?_
  refine gk_then (hK1 _ _ ?_)
  refine gc_seq fun K4 hK4 => ?_
  refine gc_region ?_
  refine g_v (.free rfl) rfl rfl (qt_assign rfl rfl) ?_
  refine g_nil ?_
  refine gk_then (hK4 _ _ ?_)
  refine gc_seq fun K5 hK5 => ?_
  refine gc_region ?_
  refine g_v (.free rfl) rfl rfl (qt_loadS (n := 0) rfl rfl Try.underlying36 rfl (by kernel_rfl) rfl) ?_
  refine g_v (.free rfl) rfl rfl (qt_move rfl rfl) ?_
  refine g_q (.free rfl) rfl rfl (qt_call rfl Try.func18 rfl (by decide) rfl (fun w M => szC_gt w _ _ _ (inC_below M.1 I0) (by first | assumption | omega) (by first | assumption | omega) (by first | assumption | omega))) ?_
  refine g_v (.free rfl) rfl rfl (qt_assign rfl rfl) ?_
  refine g_nil ?_
  refine gk_then (hK5 _ _ ?_)
  refine gc_seq fun K6 hK6 => ?_
  refine gc_seq fun K7 hK7 => ?_
  refine gc_region ?_
  refine g_v (.free rfl) rfl rfl (qt_move rfl rfl) ?_
  refine g_v (.free rfl) rfl rfl (qt_lss_t rfl rfl rfl (by decide)) ?_
  refine g_nil ?_
  refine gk_then (hK7 _ _ ?_)
  refine gc_cond_t rfl ?_
  refine gc_seq fun K8 hK8 => ?_
  refine gc_region ?_
  refine g_v (.free rfl) rfl rfl (qt_assign rfl rfl) ?_
  refine g_nil ?_
  refine gk_then (hK8 _ _ ?_)
  refine gc_ret ?_
  refine gk_then_ret ?_
  refine ret_1 rfl rfl  (fun w M => ?_)
  exact ⟨rfl, M.1⟩

theorem walk (w : World) (v0 : Value) (a0 : Cat) (a1 : Int) (r0 : List (List Int)) (r1 : Int) (h0 : InC w v0 a0) (hr0 : offR r0 r0.length ≤ 1152921504606846) (hspec : (∀ (w : World) (v0 : Value), RdC w v0 a0 → Calls Try.prog 19 #[v0, (.int .i64 a1)] w (RetRI w r0 r1))) (himpl : (∀ (w : World) (v0 : Value), RdC w v0 a0 → Calls Try.prog 21 #[v0, (.int .i64 a1)] w (RetRI w r0 r1))) :
    Calls Try.prog 5 #[v0, (.int .i64 a1)] w (RetB w true) := by
  by_cases l0 : szM a0 ≤ 1048576
  rotate_left
  · exact big0 w v0 a0 a1 r0 r1 h0 l0
  exact main w v0 a0 a1 r0 r1 h0 l0 hr0 hspec himpl

set_option maxRecDepth 100000 in
theorem lifted (os : Os) (started : os.Started) (H : Type) (enc : TypeId × Value → H) :
    ReturnsInHanded {} Try.checked os 5 .any (Rows.fnExactSubobjectsOfSpec.pre6 enc Try.prog Try.f5 Rows.fnExactSubobjectsOfRow.domain false) (Rows.fnExactSubobjectsOfSpec.post enc Try.prog Try.f5 false true false false) := by
  refine returnsInHanded_of_change (C := Try.checked) own started (by kernel_rfl) Try.func5
    (ChangeSpec.witness6 (enc := enc) (C := Try.checked) false ⟨#[], #[.agg #[.int .i64 0, .slice none 0 0, .slice none 0 0, .slice none 0 0, .slice none 0 0], .int .i64 0], []⟩ 8 (by kernel_rfl) (by kernel_rfl) (by kernel_rfl) (by kernel_rfl)) ?_
  intro W base args ds gs before hval0 hW _ _
  have hval : ∀ (j : Nat) t v, Try.f5.params[j]? = some t → args[j]? = some v → Value.okWide Try.prog W .any base t v := hval0
  have hW' := hW
  obtain ⟨p, q, hA0, hV, rfl, _, _⟩ := hW
  have hA : DataW.TrodAll enc Try.prog W 0 (fun _ => true) true Try.f5.params.toList args.toList ds p := hA0
  rw [Try.params5] at hA hval
  obtain ⟨v0, vs0, d0, ds0, p0, q0, hargs, rfl, rfl, t0, s0⟩ := trodAll_cons hA
  obtain ⟨v1, vs1, d1, ds1, p1, q1, rfl, rfl, rfl, t1, s1⟩ := trodAll_cons s0
  obtain ⟨rfl, rfl, rfl⟩ := trodAll_nil s1
  obtain rfl : args = #[v0, v1] := by cases args; simp_all
  obtain ⟨rfl, rfl⟩ := trodVars_none hV
  obtain ⟨a0, h0⟩ := open_inC (hval 0 36 v0 rfl rfl) t0
  obtain ⟨a1, rfl, rfl, rfl, _⟩ := open_int Try.underlying2 (hval 1 2 v1 rfl rfl) t1
  clear hA0 hval0
  refine (walk W v0 a0 a1 (fSubobjectsOf a0 a1).1 (fSubobjectsOf a0 a1).2 h0 (bound_SubobjectsOf a0 a1) (fun u v0 k0 => spec_SubobjectsOf u v0 a0 a1 k0) (fun u v0 k0 => impl_SubobjectsOf u v0 a0 a1 k0)).mono fun e W' ⟨he, hg⟩ => ?_
  subst he
  exact ⟨_, rfl, law_post rfl (by kernel_rfl) hW' (by kernel_rfl) rfl rfl rfl hg⟩

theorem over : Rows.fnExactSubobjectsOfRow.holds Try.pinned (OpenSpec.ofChange Rows.fnExactSubobjectsOfSpec) :=
  OpenClaim.holds_of_wide 5 Try.f5 rfl rfl rfl rfl rfl rfl rfl ⟨rfl, rfl, rfl, rfl, rfl⟩ rfl rfl rfl rfl rfl (by kernel_rfl) Try.func5 (by kernel_rfl)
    (of_decide_eq_true (by kernel_rfl)) (by unfold Func.isWrapper; first | (rw [if_pos (by decide +kernel)]; kernel_rfl) | (rw [if_neg (by decide +kernel)]; exact ⟨rfl, rfl⟩))
    (fun os started H enc _ => lifted os started H enc)

theorem proved : Rows.FnExactSubobjectsOfSaid := over
end Go.Proofs.Ytbfenibkbmkcaab.exactSubobjectsOf
