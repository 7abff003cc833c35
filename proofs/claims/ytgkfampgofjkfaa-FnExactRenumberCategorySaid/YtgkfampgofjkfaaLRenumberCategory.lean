
/- The exact law of RenumberCategory: its model and its program do the same, in memory of their own. Written by wip/tools/genlaw.py. -/
import Derived.Test.YtgkfampgofjkfaaBase
import Derived.Test.YtgkfampgofjkfaaLawC
import Derived.Test.YtgkfampgofjkfaaRul4
import Derived.Test.YtgkfampgofjkfaaRnI
set_option linter.unusedSimpArgs false
set_option linter.unusedVariables false
set_option linter.unusedSectionVars false
namespace Go.Proofs.Ytgkfampgofjkfaa.exactRenumberCategory
open Go.ChangeShapes Go.WideShapes Go.ChangeAt Go.RowKit
set_option maxHeartbeats 4000000 in
set_option maxRecDepth 100000 in
theorem main (w : World) (v0 : Value) (a0 : Cat) (v1 : Value) (a1 : List Int) (v2 : Value) (a2 : List Int) (r0 : Cat) (r1 : Int) (h0 : InC w v0 a0) (l0 : szM a0 ≤ 1048576) (h1 : In w v1 a1) (l1 : a1.length ≤ 1048576) (h2 : In w v2 a2) (l2 : a2.length ≤ 1048576) (hr0 : mzC r0 ≤ 1152921504606846) (hspec : (∀ (w : World) (v0 : Value) (v1 : Value) (v2 : Value), RdC w v0 a0 → Rd w v1 a1 → Rd w v2 a2 → CapV v1 → CapV v2 → Calls Try.prog 9 #[v0, v1, v2] w (RetCI w r0 r1))) (himpl : (∀ (w : World) (v0 : Value) (v1 : Value) (v2 : Value), RdC w v0 a0 → Rd w v1 a1 → Rd w v2 a2 → Calls Try.prog 12 #[v0, v1, v2] w (RetCI w r0 r1))) :
    Calls Try.prog 3 #[v0, v1, v2] w (RetB w true) := by
  have R0 := h0.rd (by omega)
  have I0 := h0
  obtain ⟨pa0, pb0, pc0, pd0, pe0, pf0, pg0, ph0, rfl⟩ := h0.form
  have mz0 := mz_le a0
  have R1 := h1.rd (by omega)
  have I1 := h1
  obtain ⟨pa1, pb1, rfl⟩ := h1.form
  have R2 := h2.rd (by omega)
  have I2 := h2
  obtain ⟨pa2, pb2, rfl⟩ := h2.form
  go_enter Try.func3, Try.ntmps3
  refine gc_enter (N := 138) rfl (look_cons (k := 0) rfl (look_cons (k := 1) rfl (look_cons (k := 2) rfl (look_nil _)))) ?_
  refine gc_seq fun K1 hK1 => ?_
  refine gc_region ?_
  refine g_op (.free rfl) fun K3 hK3 => ?_
  refine go_box rfl rfl rfl rfl rfl ?_
  intro B2
  refine hK3 _ _ ?_
  refine g_v (.free rfl) rfl rfl (qt_assign rfl rfl) ?_
  refine g_nil ?_
  refine gk_then (hK1 _ _ ?_)
  refine gc_seq fun K4 hK4 => ?_
  refine gc_seq fun K5 hK5 => ?_
  refine gc_region ?_
  refine g_v (.free rfl) rfl rfl (qt_move rfl rfl) ?_
  refine g_v (.free rfl) rfl rfl (qt_len rfl rfl ulE1 (fun w M => lenV_rd R1)) ?_
  refine g_v (.free rfl) rfl rfl (qt_gtr rfl rfl rfl) ?_
  refine g_nil ?_
  refine gk_then (hK5 _ _ ?_)
  refine gc_cond rfl (fun hc0 => ?_) (fun hc0 => ?_)
  · try simp only [decide_eq_true_eq, decide_eq_false_iff_not, Bool.not_eq_true', Bool.not_eq_false', Bool.not_eq_eq_eq_not, Bool.not_true, Bool.not_false, ne_eq, Decidable.not_not, Classical.not_not] at hc0
    first | (exfalso; omega) | exact absurd rfl hc0 | (simp at hc0)
  · try simp only [decide_eq_true_eq, decide_eq_false_iff_not, Bool.not_eq_true', Bool.not_eq_false', Bool.not_eq_eq_eq_not, Bool.not_true, Bool.not_false, ne_eq, Decidable.not_not, Classical.not_not] at hc0
    refine gc_skip ?_
    refine gk_then (hK4 _ _ ?_)
    refine gc_seq fun K6 hK6 => ?_
    refine gc_seq fun K7 hK7 => ?_
    refine gc_region ?_
    refine g_v (.free rfl) rfl rfl (qt_move rfl rfl) ?_
    refine g_v (.free rfl) rfl rfl (qt_len rfl rfl ulE1 (fun w M => lenV_rd R2)) ?_
    refine g_v (.free rfl) rfl rfl (qt_gtr rfl rfl rfl) ?_
    refine g_nil ?_
    refine gk_then (hK7 _ _ ?_)
    refine gc_cond rfl (fun hc1 => ?_) (fun hc1 => ?_)
    · try simp only [decide_eq_true_eq, decide_eq_false_iff_not, Bool.not_eq_true', Bool.not_eq_false', Bool.not_eq_eq_eq_not, Bool.not_true, Bool.not_false, ne_eq, Decidable.not_not, Classical.not_not] at hc1
      first | (exfalso; omega) | exact absurd rfl hc1 | (simp at hc1)
    · try simp only [decide_eq_true_eq, decide_eq_false_iff_not, Bool.not_eq_true', Bool.not_eq_false', Bool.not_eq_eq_eq_not, Bool.not_true, Bool.not_false, ne_eq, Decidable.not_not, Classical.not_not] at hc1
      refine gc_skip ?_
      refine gk_then (hK6 _ _ ?_)
      refine gc_seq fun K8 hK8 => ?_
      refine gc_region ?_
      refine g_v (.free rfl) rfl rfl (qt_assign rfl rfl) ?_
      refine g_nil ?_
      refine gk_then (hK8 _ _ ?_)
      refine gc_seq fun K9 hK9 => ?_
      refine gc_region ?_
      refine g_v (.free rfl) rfl rfl (qt_loadS (n := 0) rfl rfl Try.underlying25 rfl (by kernel_rfl) rfl) ?_
      refine g_v (.free rfl) rfl rfl (qt_move rfl rfl) ?_
      refine g_q (.free rfl) rfl rfl (qt_call rfl Try.func8 rfl (by decide) rfl (fun w M => szC_le w _ _ _ (inC_below M.1 I0) (by first | assumption | omega) (by first | assumption | omega) (by first | assumption | omega))) ?_
      refine g_v (.free rfl) rfl rfl (qt_assign rfl rfl) ?_
      refine g_nil ?_
      refine gk_then (hK9 _ _ ?_)
      refine gc_seq fun K10 hK10 => ?_
      refine gc_seq fun K11 hK11 => ?_
      refine gc_region ?_
      refine g_v (.free rfl) rfl rfl (qt_move rfl rfl) ?_
      refine g_v (.free rfl) rfl rfl (qt_lss rfl rfl rfl) ?_
      refine g_nil ?_
      refine gk_then (hK11 _ _ ?_)
      refine gc_cond rfl (fun hc2 => ?_) (fun hc2 => ?_)
      · try simp only [decide_eq_true_eq, decide_eq_false_iff_not, Bool.not_eq_true', Bool.not_eq_false', Bool.not_eq_eq_eq_not, Bool.not_true, Bool.not_false, ne_eq, Decidable.not_not, Classical.not_not] at hc2
        first | (exfalso; omega) | exact absurd rfl hc2 | (simp at hc2)
      · try simp only [decide_eq_true_eq, decide_eq_false_iff_not, Bool.not_eq_true', Bool.not_eq_false', Bool.not_eq_eq_eq_not, Bool.not_true, Bool.not_false, ne_eq, Decidable.not_not, Classical.not_not] at hc2
        refine gc_skip ?_
        refine gk_then (hK10 _ _ ?_)
        refine gc_seq fun K12 hK12 => ?_
        refine gc_region ?_
        refine g_v (.free rfl) rfl rfl (qt_loadS (n := 0) rfl rfl Try.underlying25 rfl (by kernel_rfl) rfl) ?_
        refine g_op (.free rfl) fun K14 hK14 => ?_
        refine go_callC1 rfl rfl rfl Try.func10 rfl (by decide) rfl (fun w M => toC_any w _ _ (mem_rdC M R0)) ?_
        intro ca13 cb13 cc13 cd13 ce13 cf13 cg13 ch13
        refine hK14 _ _ ?_
        refine g_v (.free rfl) rfl rfl (qt_move rfl rfl) ?_
        refine g_op (.free rfl) fun K16 hK16 => ?_
        refine go_callL1 rfl rfl rfl Try.func11 rfl (by decide) rfl (fun w M => to_any w _ _ (mem_rd M R1)) ?_
        intro ca15 cb15 cc15
        refine hK16 _ _ ?_
        refine g_v (.free rfl) rfl rfl (qt_move rfl rfl) ?_
        refine g_op (.free rfl) fun K18 hK18 => ?_
        refine go_callL1 rfl rfl rfl Try.func11 rfl (by decide) rfl (fun w M => to_any w _ _ (mem_rd M R2)) ?_
        intro ca17 cb17 cc17
        refine hK18 _ _ ?_
        refine g_op (.free rfl) fun K20 hK20 => ?_
        refine go_callCI1 rfl rfl rfl Try.func9 rfl (by decide) rfl (fun w M => hspec w _ _ _ ((mem_ownC (n := 1) M rfl).rd) ((mem_own1 (n := 2) M rfl).rd) ((mem_own1 (n := 3) M rfl).rd) (by first | exact cap_own1 (n := 0) M rfl | exact cap_own1 (n := 1) M rfl | exact cap_own1 (n := 2) M rfl | exact cap_own1 (n := 3) M rfl | exact cap_own1 (n := 4) M rfl | exact cap_own1 (n := 5) M rfl | exact cap_own1 (n := 6) M rfl | exact cap_own1 (n := 7) M rfl | exact cap_own1 (n := 8) M rfl | exact cap_own1 (n := 9) M rfl | exact cap_own1 (n := 10) M rfl | exact cap_own1 (n := 11) M rfl | exact cap_own1 (n := 12) M rfl | exact cap_own1 (n := 13) M rfl) (by first | exact cap_own1 (n := 0) M rfl | exact cap_own1 (n := 1) M rfl | exact cap_own1 (n := 2) M rfl | exact cap_own1 (n := 3) M rfl | exact cap_own1 (n := 4) M rfl | exact cap_own1 (n := 5) M rfl | exact cap_own1 (n := 6) M rfl | exact cap_own1 (n := 7) M rfl | exact cap_own1 (n := 8) M rfl | exact cap_own1 (n := 9) M rfl | exact cap_own1 (n := 10) M rfl | exact cap_own1 (n := 11) M rfl | exact cap_own1 (n := 12) M rfl | exact cap_own1 (n := 13) M rfl)) ?_
        intro ca19 cb19 cc19 cd19 ce19 cf19 cg19 ch19
        refine hK20 _ _ ?_
        refine g_v (.free rfl) rfl rfl (qt_move rfl rfl) ?_
        refine g_v (.free rfl) rfl rfl (qt_extract rfl rfl rfl) ?_
        refine g_v (.free rfl) rfl rfl (qt_extract rfl rfl rfl) ?_
        refine g_op (.free rfl) fun K22 hK22 => ?_
        refine go_alloc (z := (.agg #[.int .i64 0, .slice none 0 0, .slice none 0 0, .slice none 0 0, .slice none 0 0])) (cs := [.int .i64 0, .slice none 0 0, .slice none 0 0, .slice none 0 0, .slice none 0 0]) rfl rfl rfl (fun w => by kernel_rfl) rfl ?_
        intro B21
        refine hK22 _ _ ?_
        refine g_op (.free rfl) fun K23 hK23 => ?_
        refine go_storeS (n := 5) rfl rfl rfl rfl (by kernel_rfl) rfl rfl rfl ?_
        refine hK23 _ _ ?_
        refine g_v (.free rfl) rfl rfl (qt_assign rfl rfl) ?_
        refine g_nil ?_
        refine gk_then (hK12 _ _ ?_)
        refine gc_seq fun K24 hK24 => ?_
        refine gc_region ?_
        refine g_v (.free rfl) rfl rfl (qt_loadS (n := 0) rfl rfl Try.underlying25 rfl (by kernel_rfl) rfl) ?_
        refine g_op (.free rfl) fun K26 hK26 => ?_
        refine go_callC1 rfl rfl rfl Try.func10 rfl (by decide) rfl (fun w M => toC_any w _ _ (mem_rdC M R0)) ?_
        intro ca25 cb25 cc25 cd25 ce25 cf25 cg25 ch25
        refine hK26 _ _ ?_
        refine g_op (.free rfl) fun K28 hK28 => ?_
        refine go_alloc (z := (.agg #[.int .i64 0, .slice none 0 0, .slice none 0 0, .slice none 0 0, .slice none 0 0])) (cs := [.int .i64 0, .slice none 0 0, .slice none 0 0, .slice none 0 0, .slice none 0 0]) rfl rfl rfl (fun w => by kernel_rfl) rfl ?_
        intro B27
        refine hK28 _ _ ?_
        refine g_op (.free rfl) fun K29 hK29 => ?_
        refine go_storeS (n := 7) rfl rfl rfl rfl (by kernel_rfl) rfl rfl rfl ?_
        refine hK29 _ _ ?_
        refine g_nil ?_
        refine gk_then (hK24 _ _ ?_)
        refine gc_seq fun K30 hK30 => ?_
        refine gc_region ?_
        refine g_v (.free rfl) rfl rfl (qt_move rfl rfl) ?_
        refine g_op (.free rfl) fun K32 hK32 => ?_
        refine go_callL1 rfl rfl rfl Try.func11 rfl (by decide) rfl (fun w M => to_any w _ _ (mem_rd M R1)) ?_
        intro ca31 cb31 cc31
        refine hK32 _ _ ?_
        refine g_v (.free rfl) rfl rfl (qt_assign rfl rfl) ?_
        refine g_nil ?_
        refine gk_then (hK30 _ _ ?_)
        refine gc_seq fun K33 hK33 => ?_
        refine gc_region ?_
        refine g_v (.free rfl) rfl rfl (qt_move rfl rfl) ?_
        refine g_op (.free rfl) fun K35 hK35 => ?_
        refine go_callL1 rfl rfl rfl Try.func11 rfl (by decide) rfl (fun w M => to_any w _ _ (mem_rd M R2)) ?_
        intro ca34 cb34 cc34
        refine hK35 _ _ ?_
        refine g_v (.free rfl) rfl rfl (qt_assign rfl rfl) ?_
        refine g_nil ?_
        refine gk_then (hK33 _ _ ?_)
        refine gc_seq fun K36 hK36 => ?_
        refine gc_region ?_
        refine g_v (.free rfl) rfl rfl (qt_loadS (n := 7) rfl rfl Try.underlying27 rfl (by kernel_rfl) rfl) ?_
        refine g_v (.free rfl) rfl rfl (qt_move rfl rfl) ?_
        refine g_v (.free rfl) rfl rfl (qt_move rfl rfl) ?_
        refine g_op (.free rfl) fun K38 hK38 => ?_
        refine go_callCI1 rfl rfl rfl Try.func12 rfl (by decide) rfl (fun w M => himpl w _ _ _ ((mem_ownC (n := 6) M rfl).rd) ((mem_own1 (n := 8) M rfl).rd) ((mem_own1 (n := 9) M rfl).rd)) ?_
        intro ca37 cb37 cc37 cd37 ce37 cf37 cg37 ch37
        refine hK38 _ _ ?_
        refine g_v (.free rfl) rfl rfl (qt_move rfl rfl) ?_
        refine g_v (.free rfl) rfl rfl (qt_extract rfl rfl rfl) ?_
        refine g_v (.free rfl) rfl rfl (qt_extract rfl rfl rfl) ?_
        refine g_op (.free rfl) fun K40 hK40 => ?_
        refine go_alloc (z := (.agg #[.int .i64 0, .slice none 0 0, .slice none 0 0, .slice none 0 0, .slice none 0 0])) (cs := [.int .i64 0, .slice none 0 0, .slice none 0 0, .slice none 0 0, .slice none 0 0]) rfl rfl rfl (fun w => by kernel_rfl) rfl ?_
        intro B39
        refine hK40 _ _ ?_
        refine g_op (.free rfl) fun K41 hK41 => ?_
        refine go_storeS (n := 11) rfl rfl rfl rfl (by kernel_rfl) rfl rfl rfl ?_
        refine hK41 _ _ ?_
        refine g_v (.free rfl) rfl rfl (qt_assign rfl rfl) ?_
        refine g_nil ?_
        refine gk_then (hK36 _ _ ?_)
        refine gc_seq fun K42 hK42 => ?_
        refine gc_seq fun K43 hK43 => ?_
        refine gc_region ?_
        refine g_v (.free rfl) rfl rfl (qt_loadS (n := 11) rfl rfl Try.underlying27 rfl (by kernel_rfl) rfl) ?_
        refine g_v (.free rfl) rfl rfl (qt_loadS (n := 5) rfl rfl Try.underlying27 rfl (by kernel_rfl) rfl) ?_
        refine g_q (.free rfl) rfl rfl (qt_call rfl Try.func13 rfl (by decide) rfl (fun w M => eqC_refl_any w _ _ _ ((mem_ownC (n := 10) M rfl).rd) ((mem_ownC (n := 4) M rfl).rd))) ?_
        refine g_v (.free rfl) rfl rfl (qt_not rfl rfl) ?_
        refine g_v (.free rfl) rfl rfl (qt_move rfl rfl) ?_
        refine g_v (.held _ _ _ rfl rfl rfl) rfl rfl (qt_move rfl rfl) ?_
        refine g_v (.held _ _ _ rfl rfl rfl) rfl rfl (qt_move rfl rfl) ?_
        refine g_v (.held _ _ _ rfl rfl rfl) rfl rfl (qt_neq_f rfl rfl rfl (fun h => h rfl)) ?_
        refine g_v (.free rfl) rfl rfl (qt_pick_f rfl rfl rfl) ?_
        refine g_nil ?_
        refine gk_then (hK43 _ _ ?_)
        refine gc_cond_f rfl ?_
        refine gc_skip ?_
        refine gk_then (hK42 _ _ ?_)
        refine gc_seq fun K44 hK44 => ?_
        refine gc_seq fun K45 hK45 => ?_
        try simp only [List.nil_append, List.cons_append, List.append_assoc, List.set_cons_succ, List.set_cons_zero]
        refine ga_start _ (fun w M => M) ?_
        refine ga_v 0 rfl (by kernel_rfl) (by kernel_rfl) (by kernel_rfl) (.free rfl) rfl rfl (qt_loadS (n := 7) rfl rfl Try.underlying27 rfl (by kernel_rfl) rfl) (fun _ _ _ h => h) ?_
        refine ga_v 1 rfl (by kernel_rfl) (by kernel_rfl) (by kernel_rfl) (.free rfl) rfl rfl (qt_loadS (n := 0) rfl rfl Try.underlying25 rfl (by kernel_rfl) rfl) (fun _ _ _ h => h) ?_
        refine ga_op 2 (by kernel_rfl) rfl (.free rfl) fun K47 hK47 => ?_
        refine go_callC1 rfl rfl rfl Try.func10 rfl (by decide) rfl (fun w M => toC_any w _ _ (mem_rdC M R0)) ?_
        intro ca46 cb46 cc46 cd46 ce46 cf46 cg46 ch46
        refine hK47 _ _ (fun w M => (mem_take 12 M :)) ?_
        refine ga_op 3 (by kernel_rfl) rfl (.free rfl) fun K48 hK48 => ?_
        refine go_q rfl rfl (qt_call rfl Try.func13 rfl (by decide) rfl (fun w M => eqC_refl_any w _ _ _ ((mem_ownC (n := 6) M rfl).rd) ((mem_ownC (n := 12) M rfl).rd))) ?_
        refine hK48 _ _ (fun w M => (mem_take 12 M :)) ?_
        refine ga_v 4 rfl (by kernel_rfl) (by kernel_rfl) (by kernel_rfl) (.free rfl) rfl rfl (qt_not rfl rfl) (fun _ _ _ h => h) ?_
        refine ga_done (by kernel_rfl) ?_
        refine gk_then (hK45 _ _ ?_)
        refine gc_cond_f rfl ?_
        refine gc_skip ?_
        refine gk_then (hK44 _ _ ?_)
        refine gc_seq fun K49 hK49 => ?_
        refine gc_seq fun K50 hK50 => ?_
        refine gc_region ?_
        refine g_v (.free rfl) rfl rfl (qt_move rfl rfl) ?_
        refine g_v (.free rfl) rfl rfl (qt_move rfl rfl) ?_
        refine g_op (.free rfl) fun K52 hK52 => ?_
        refine go_callL1 rfl rfl rfl Try.func11 rfl (by decide) rfl (fun w M => to_any w _ _ (mem_rd M R1)) ?_
        intro ca51 cb51 cc51
        refine hK52 _ _ ?_
        refine g_q (.free rfl) rfl rfl (qt_call rfl Try.func14 rfl (by decide) rfl (fun w M => eq_any w _ _ _ _ ((mem_own1 (n := 8) M rfl).rd) ((mem_own1 (n := 13) M rfl).rd))) ?_
        refine g_v (.free rfl) rfl rfl (qt_not rfl rfl) ?_
        refine g_nil ?_
        refine gk_then (hK50 _ _ ?_)
        refine gc_cond rfl (fun hc3 => ?_) (fun hc3 => ?_)
        · try simp only [decide_eq_true_eq, decide_eq_false_iff_not, Bool.not_eq_true', Bool.not_eq_false', Bool.not_eq_eq_eq_not, Bool.not_true, Bool.not_false, ne_eq, Decidable.not_not, Classical.not_not] at hc3
          first | (exfalso; omega) | exact absurd rfl hc3 | (simp at hc3)
        · try simp only [decide_eq_true_eq, decide_eq_false_iff_not, Bool.not_eq_true', Bool.not_eq_false', Bool.not_eq_eq_eq_not, Bool.not_true, Bool.not_false, ne_eq, Decidable.not_not, Classical.not_not] at hc3
          refine gc_skip ?_
          refine gk_then (hK49 _ _ ?_)
          refine gc_seq fun K53 hK53 => ?_
          refine gc_seq fun K54 hK54 => ?_
          refine gc_region ?_
          refine g_v (.free rfl) rfl rfl (qt_move rfl rfl) ?_
          refine g_v (.free rfl) rfl rfl (qt_move rfl rfl) ?_
          refine g_op (.free rfl) fun K56 hK56 => ?_
          refine go_callL1 rfl rfl rfl Try.func11 rfl (by decide) rfl (fun w M => to_any w _ _ (mem_rd M R2)) ?_
          intro ca55 cb55 cc55
          refine hK56 _ _ ?_
          refine g_q (.free rfl) rfl rfl (qt_call rfl Try.func14 rfl (by decide) rfl (fun w M => eq_any w _ _ _ _ ((mem_own1 (n := 9) M rfl).rd) ((mem_own1 (n := 14) M rfl).rd))) ?_
          refine g_v (.free rfl) rfl rfl (qt_not rfl rfl) ?_
          refine g_nil ?_
          refine gk_then (hK54 _ _ ?_)
          refine gc_cond rfl (fun hc4 => ?_) (fun hc4 => ?_)
          · try simp only [decide_eq_true_eq, decide_eq_false_iff_not, Bool.not_eq_true', Bool.not_eq_false', Bool.not_eq_eq_eq_not, Bool.not_true, Bool.not_false, ne_eq, Decidable.not_not, Classical.not_not] at hc4
            first | (exfalso; omega) | exact absurd rfl hc4 | (simp at hc4)
          · try simp only [decide_eq_true_eq, decide_eq_false_iff_not, Bool.not_eq_true', Bool.not_eq_false', Bool.not_eq_eq_eq_not, Bool.not_true, Bool.not_false, ne_eq, Decidable.not_not, Classical.not_not] at hc4
            refine gc_skip ?_
            refine gk_then (hK53 _ _ ?_)
            refine gc_seq fun K57 hK57 => ?_
            refine gc_region ?_
            refine g_v (.free rfl) rfl rfl (qt_assign rfl rfl) ?_
            refine g_nil ?_
            refine gk_then (hK57 _ _ ?_)
            refine gc_seq fun K58 hK58 => ?_
            refine gc_region ?_
            refine g_v (.free rfl) rfl rfl (qt_loadS (n := 7) rfl rfl Try.underlying27 rfl (by kernel_rfl) rfl) ?_
            refine g_v (.free rfl) rfl rfl (qt_move rfl rfl) ?_
            refine g_op (.free rfl) fun K59 hK59 => ?_
            refine go_mark (ownCI _ (mkC _ _)) (n := 6) rfl rfl rfl Try.func15 rfl (by decide) rfl rfl (fun w S hS => markC_any w S _ _ _ hS (by omega) (by omega)) ?_
            refine hK59 _ _ ?_
            refine g_v (.free rfl) rfl rfl (qt_assign rfl rfl) ?_
            refine g_nil ?_
            refine gk_then (hK58 _ _ ?_)
            refine gc_seq fun K60 hK60 => ?_
            refine gc_region ?_
            refine g_v (.free rfl) rfl rfl (qt_move rfl rfl) ?_
            refine g_v (.free rfl) rfl rfl (qt_move rfl rfl) ?_
            refine g_op (.free rfl) fun K61 hK61 => ?_
            refine go_mark (own1I _ (upTo _ _)) (n := 8) rfl rfl rfl Try.func16 rfl (by decide) rfl rfl (fun w S hS => markS_any w S _ _ _ hS (by omega) (by omega)) ?_
            refine hK61 _ _ ?_
            refine g_v (.free rfl) rfl rfl (qt_assign rfl rfl) ?_
            refine g_nil ?_
            refine gk_then (hK60 _ _ ?_)
            refine gc_seq fun K62 hK62 => ?_
            refine gc_region ?_
            refine g_v (.free rfl) rfl rfl (qt_move rfl rfl) ?_
            refine g_v (.free rfl) rfl rfl (qt_move rfl rfl) ?_
            refine g_op (.free rfl) fun K63 hK63 => ?_
            refine go_mark (own1I _ (upTo _ _)) (n := 9) rfl rfl rfl Try.func16 rfl (by decide) rfl rfl (fun w S hS => markS_any w S _ _ _ hS (by omega) (by omega)) ?_
            refine hK63 _ _ ?_
            refine g_v (.free rfl) rfl rfl (qt_assign rfl rfl) ?_
            refine g_nil ?_
            refine gk_then (hK62 _ _ ?_)
            refine gc_seq fun K64 hK64 => ?_
            refine gc_seq fun K65 hK65 => ?_
            refine gc_region ?_
            refine g_v (.free rfl) rfl rfl (qt_move rfl rfl) ?_
            refine g_v (.free rfl) rfl rfl (qt_lss rfl rfl rfl) ?_
            refine g_splitv (.free rfl) rfl rfl (qt_move rfl rfl) (fun hs26_2 => ?_) (fun hs26_2 => ?_)
            · try simp only [decide_eq_true_eq, decide_eq_false_iff_not, Bool.not_eq_true', Bool.not_eq_false', Bool.not_eq_eq_eq_not, Bool.not_true, Bool.not_false, ne_eq, Decidable.not_not, Classical.not_not] at hs26_2
              first | (exfalso; omega) | exact absurd rfl hs26_2 | (simp at hs26_2)
            · try simp only [decide_eq_true_eq, decide_eq_false_iff_not, Bool.not_eq_true', Bool.not_eq_false', Bool.not_eq_eq_eq_not, Bool.not_true, Bool.not_false, ne_eq, Decidable.not_not, Classical.not_not] at hs26_2
              refine g_v (.held _ _ _ rfl rfl rfl) rfl rfl (qt_loadS (n := 11) rfl rfl Try.underlying27 rfl (by kernel_rfl) rfl) ?_
              refine g_v (.held _ _ _ rfl rfl rfl) rfl rfl (qt_loadS (n := 5) rfl rfl Try.underlying27 rfl (by kernel_rfl) rfl) ?_
              refine g_q (.held _ _ _ rfl rfl rfl) rfl rfl (qt_call rfl Try.func13 rfl (by decide) rfl (fun w M => eqC_refl_any w _ _ _ ((mem_ownC (n := 10) M rfl).rd) ((mem_ownC (n := 4) M rfl).rd))) ?_
              refine g_v (.held _ _ _ rfl rfl rfl) rfl rfl (qt_not rfl rfl) ?_
              refine g_v (.free rfl) rfl rfl (qt_pick_f rfl rfl rfl) ?_
              refine g_v (.free rfl) rfl rfl (qt_move rfl rfl) ?_
              refine g_v (.held _ _ _ rfl rfl rfl) rfl rfl (qt_move rfl rfl) ?_
              refine g_v (.held _ _ _ rfl rfl rfl) rfl rfl (qt_move rfl rfl) ?_
              refine g_v (.held _ _ _ rfl rfl rfl) rfl rfl (qt_neq_f rfl rfl rfl (fun h => h rfl)) ?_
              refine g_v (.free rfl) rfl rfl (qt_pick_f rfl rfl rfl) ?_
              refine g_nil ?_
              refine gk_then (hK65 _ _ ?_)
              refine gc_cond_f rfl ?_
              refine gc_skip ?_
              refine gk_then (hK64 _ _ ?_)
              refine gc_seq fun K66 hK66 => ?_
              refine gc_region ?_
              refine g_v (.free rfl) rfl rfl (qt_assign rfl rfl) ?_
              refine g_nil ?_
              refine gk_then (hK66 _ _ ?_)
              refine gc_seq fun K67 hK67 => ?_
              refine gc_region ?_
              refine g_v (.free rfl) rfl rfl (qt_loadS (n := 11) rfl rfl Try.underlying27 rfl (by kernel_rfl) rfl) ?_
              refine g_v (.free rfl) rfl rfl (qt_move rfl rfl) ?_
              refine g_op (.free rfl) fun K68 hK68 => ?_
              refine go_mark (ownCI _ (mkC _ _)) (n := 10) rfl rfl rfl Try.func15 rfl (by decide) rfl rfl (fun w S hS => markC_any w S _ _ _ hS (by omega) (by omega)) ?_
              refine hK68 _ _ ?_
              refine g_v (.free rfl) rfl rfl (qt_assign rfl rfl) ?_
              refine g_nil ?_
              refine gk_then (hK67 _ _ ?_)
              refine gc_seq fun K69 hK69 => ?_
              refine gc_region ?_
              refine g_v (.free rfl) rfl rfl (qt_assign rfl rfl) ?_
              refine g_nil ?_
              refine gk_then (hK69 _ _ ?_)
              refine gc_seq fun K70 hK70 => ?_
              refine gc_region ?_
              refine g_v (.free rfl) rfl rfl (qt_loadS (n := 11) rfl rfl Try.underlying27 rfl (by kernel_rfl) rfl) ?_
              refine g_v (.free rfl) rfl rfl (qt_move rfl rfl) ?_
              refine g_q (.free rfl) rfl rfl (qt_call rfl Try.func17 rfl (by decide) rfl (fun w M => heldC_any w _ _ _ ((mem_ownC (n := 10) M rfl).rd) (by first | assumption | omega) (by first | assumption | omega))) ?_
              refine g_v (.free rfl) rfl rfl (qt_assign rfl rfl) ?_
              refine g_nil ?_
              refine gk_then (hK70 _ _ ?_)
              refine gc_seq fun K71 hK71 => ?_
              refine gc_seq fun K72 hK72 => ?_
              refine gc_region ?_
              refine g_v (.free rfl) rfl rfl (qt_move rfl rfl) ?_
              refine g_v (.free rfl) rfl rfl (qt_lss rfl rfl rfl) ?_
              refine g_nil ?_
              refine gk_then (hK72 _ _ ?_)
              refine gc_cond rfl (fun hc5 => ?_) (fun hc5 => ?_)
              · try simp only [decide_eq_true_eq, decide_eq_false_iff_not, Bool.not_eq_true', Bool.not_eq_false', Bool.not_eq_eq_eq_not, Bool.not_true, Bool.not_false, ne_eq, Decidable.not_not, Classical.not_not] at hc5
                first | (exfalso; omega) | exact absurd rfl hc5 | (simp at hc5)
              · try simp only [decide_eq_true_eq, decide_eq_false_iff_not, Bool.not_eq_true', Bool.not_eq_false', Bool.not_eq_eq_eq_not, Bool.not_true, Bool.not_false, ne_eq, Decidable.not_not, Classical.not_not] at hc5
                refine gc_skip ?_
                refine gk_then (hK71 _ _ ?_)
                refine gc_seq fun K73 hK73 => ?_
                refine gc_seq fun K74 hK74 => ?_
                refine gc_region ?_
                refine g_v (.free rfl) rfl rfl (qt_move rfl rfl) ?_
                refine g_v (.free rfl) rfl rfl (qt_move rfl rfl) ?_
                refine g_v (.free rfl) rfl rfl (qt_neq rfl rfl rfl) ?_
                refine g_nil ?_
                refine gk_then (hK74 _ _ ?_)
                refine gc_cond rfl (fun hc6 => ?_) (fun hc6 => ?_)
                · try simp only [decide_eq_true_eq, decide_eq_false_iff_not, Bool.not_eq_true', Bool.not_eq_false', Bool.not_eq_eq_eq_not, Bool.not_true, Bool.not_false, ne_eq, Decidable.not_not, Classical.not_not] at hc6
                  first | (exfalso; omega) | exact absurd rfl hc6 | (simp at hc6)
                · try simp only [decide_eq_true_eq, decide_eq_false_iff_not, Bool.not_eq_true', Bool.not_eq_false', Bool.not_eq_eq_eq_not, Bool.not_true, Bool.not_false, ne_eq, Decidable.not_not, Classical.not_not] at hc6
                  refine gc_skip ?_
                  refine gk_then (hK73 _ _ ?_)
                  refine gc_seq fun K75 hK75 => ?_
                  refine gc_region ?_
                  refine g_v (.free rfl) rfl rfl (qt_loadS (n := 0) rfl rfl Try.underlying25 rfl (by kernel_rfl) rfl) ?_
                  refine g_op (.free rfl) fun K77 hK77 => ?_
                  refine go_callC1 rfl rfl rfl Try.func10 rfl (by decide) rfl (fun w M => toC_any w _ _ (mem_rdC M R0)) ?_
                  intro ca76 cb76 cc76 cd76 ce76 cf76 cg76 ch76
                  refine hK77 _ _ ?_
                  refine g_v (.free rfl) rfl rfl (qt_move rfl rfl) ?_
                  refine g_op (.free rfl) fun K79 hK79 => ?_
                  refine go_callL1 rfl rfl rfl Try.func11 rfl (by decide) rfl (fun w M => to_any w _ _ (mem_rd M R1)) ?_
                  intro ca78 cb78 cc78
                  refine hK79 _ _ ?_
                  refine g_v (.free rfl) rfl rfl (qt_move rfl rfl) ?_
                  refine g_op (.free rfl) fun K81 hK81 => ?_
                  refine go_callL1 rfl rfl rfl Try.func11 rfl (by decide) rfl (fun w M => to_any w _ _ (mem_rd M R2)) ?_
                  intro ca80 cb80 cc80
                  refine hK81 _ _ ?_
                  refine g_op (.free rfl) fun K83 hK83 => ?_
                  refine go_callCI1 rfl rfl rfl Try.func12 rfl (by decide) rfl (fun w M => himpl w _ _ _ ((mem_ownC (n := 15) M rfl).rd) ((mem_own1 (n := 16) M rfl).rd) ((mem_own1 (n := 17) M rfl).rd)) ?_
                  intro ca82 cb82 cc82 cd82 ce82 cf82 cg82 ch82
                  refine hK83 _ _ ?_
                  refine g_v (.free rfl) rfl rfl (qt_move rfl rfl) ?_
                  refine g_v (.free rfl) rfl rfl (qt_extract rfl rfl rfl) ?_
                  refine g_v (.free rfl) rfl rfl (qt_extract rfl rfl rfl) ?_
                  refine g_op (.free rfl) fun K85 hK85 => ?_
                  refine go_alloc (z := (.agg #[.int .i64 0, .slice none 0 0, .slice none 0 0, .slice none 0 0, .slice none 0 0])) (cs := [.int .i64 0, .slice none 0 0, .slice none 0 0, .slice none 0 0, .slice none 0 0]) rfl rfl rfl (fun w => by kernel_rfl) rfl ?_
                  intro B84
                  refine hK85 _ _ ?_
                  refine g_op (.free rfl) fun K86 hK86 => ?_
                  refine go_storeS (n := 19) rfl rfl rfl rfl (by kernel_rfl) rfl rfl rfl ?_
                  refine hK86 _ _ ?_
                  refine g_v (.free rfl) rfl rfl (qt_assign rfl rfl) ?_
                  refine g_nil ?_
                  refine gk_then (hK75 _ _ ?_)
                  refine gc_seq fun K87 hK87 => ?_
                  refine gc_seq fun K88 hK88 => ?_
                  refine gc_region ?_
                  refine g_v (.free rfl) rfl rfl (qt_loadS (n := 19) rfl rfl Try.underlying27 rfl (by kernel_rfl) rfl) ?_
                  refine g_v (.free rfl) rfl rfl (qt_loadS (n := 5) rfl rfl Try.underlying27 rfl (by kernel_rfl) rfl) ?_
                  refine g_q (.free rfl) rfl rfl (qt_call rfl Try.func13 rfl (by decide) rfl (fun w M => eqC_refl_any w _ _ _ ((mem_ownC (n := 18) M rfl).rd) ((mem_ownC (n := 4) M rfl).rd))) ?_
                  refine g_v (.free rfl) rfl rfl (qt_not rfl rfl) ?_
                  refine g_v (.free rfl) rfl rfl (qt_move rfl rfl) ?_
                  refine g_v (.held _ _ _ rfl rfl rfl) rfl rfl (qt_move rfl rfl) ?_
                  refine g_v (.held _ _ _ rfl rfl rfl) rfl rfl (qt_move rfl rfl) ?_
                  refine g_v (.held _ _ _ rfl rfl rfl) rfl rfl (qt_neq_f rfl rfl rfl (fun h => h rfl)) ?_
                  refine g_v (.free rfl) rfl rfl (qt_pick_f rfl rfl rfl) ?_
                  refine g_nil ?_
                  refine gk_then (hK88 _ _ ?_)
                  refine gc_cond_f rfl ?_
                  refine gc_skip ?_
                  refine gk_then (hK87 _ _ ?_)
                  refine gc_seq fun K89 hK89 => ?_
                  refine gc_region ?_
                  refine g_v (.free rfl) rfl rfl (qt_assign rfl rfl) ?_
                  refine g_nil ?_
                  refine gk_then (hK89 _ _ ?_)
                  refine gc_seq fun K90 hK90 => ?_
                  refine gc_region ?_
                  refine g_v (.free rfl) rfl rfl (qt_loadS (n := 11) rfl rfl Try.underlying27 rfl (by kernel_rfl) rfl) ?_
                  refine g_v (.free rfl) rfl rfl (qt_move rfl rfl) ?_
                  refine g_q (.free rfl) rfl rfl (qt_call rfl Try.func17 rfl (by decide) rfl (fun w M => heldC_any w _ _ _ ((mem_ownC (n := 10) M rfl).rd) (by first | assumption | omega) (by first | assumption | omega))) ?_
                  refine g_v (.free rfl) rfl rfl (qt_assign rfl rfl) ?_
                  refine g_nil ?_
                  refine gk_then (hK90 _ _ ?_)
                  refine gc_seq fun K91 hK91 => ?_
                  refine gc_seq fun K92 hK92 => ?_
                  refine gc_region ?_
                  refine g_v (.free rfl) rfl rfl (qt_move rfl rfl) ?_
                  refine g_v (.free rfl) rfl rfl (qt_lss rfl rfl rfl) ?_
                  refine g_nil ?_
                  refine gk_then (hK92 _ _ ?_)
                  refine gc_cond rfl (fun hc7 => ?_) (fun hc7 => ?_)
                  · try simp only [decide_eq_true_eq, decide_eq_false_iff_not, Bool.not_eq_true', Bool.not_eq_false', Bool.not_eq_eq_eq_not, Bool.not_true, Bool.not_false, ne_eq, Decidable.not_not, Classical.not_not] at hc7
                    first | (exfalso; omega) | exact absurd rfl hc7 | (simp at hc7)
                  · try simp only [decide_eq_true_eq, decide_eq_false_iff_not, Bool.not_eq_true', Bool.not_eq_false', Bool.not_eq_eq_eq_not, Bool.not_true, Bool.not_false, ne_eq, Decidable.not_not, Classical.not_not] at hc7
                    refine gc_skip ?_
                    refine gk_then (hK91 _ _ ?_)
                    refine gc_seq fun K93 hK93 => ?_
                    refine gc_seq fun K94 hK94 => ?_
                    refine gc_region ?_
                    refine g_v (.free rfl) rfl rfl (qt_move rfl rfl) ?_
                    refine g_v (.free rfl) rfl rfl (qt_move rfl rfl) ?_
                    refine g_v (.free rfl) rfl rfl (qt_neq rfl rfl rfl) ?_
                    refine g_nil ?_
                    refine gk_then (hK94 _ _ ?_)
                    refine gc_cond rfl (fun hc8 => ?_) (fun hc8 => ?_)
                    · try simp only [decide_eq_true_eq, decide_eq_false_iff_not, Bool.not_eq_true', Bool.not_eq_false', Bool.not_eq_eq_eq_not, Bool.not_true, Bool.not_false, ne_eq, Decidable.not_not, Classical.not_not] at hc8
                      first | (exfalso; omega) | exact absurd rfl hc8 | (simp at hc8)
                    · try simp only [decide_eq_true_eq, decide_eq_false_iff_not, Bool.not_eq_true', Bool.not_eq_false', Bool.not_eq_eq_eq_not, Bool.not_true, Bool.not_false, ne_eq, Decidable.not_not, Classical.not_not] at hc8
                      refine gc_skip ?_
                      refine gk_then (hK93 _ _ ?_)
                      refine gc_seq fun K95 hK95 => ?_
                      refine gc_region ?_
                      refine g_v (.free rfl) rfl rfl (qt_assign rfl rfl) ?_
                      refine g_nil ?_
                      refine gk_then (hK95 _ _ ?_)
                      refine gc_ret ?_
                      refine ret_1 rfl rfl  (fun w M => ?_)
                      exact ⟨rfl, M.1⟩

set_option maxHeartbeats 1000000 in
set_option maxRecDepth 100000 in
theorem big0 (w : World) (v0 : Value) (a0 : Cat) (v1 : Value) (a1 : List Int) (v2 : Value) (a2 : List Int) (r0 : Cat) (r1 : Int) (h0 : InC w v0 a0) (h1 : In w v1 a1) (h2 : In w v2 a2) (nl : ¬ (a1.length ≤ 1048576)) :
    Calls Try.prog 3 #[v0, v1, v2] w (RetB w true) := by
  have I0 := h0
  obtain ⟨pa0, pb0, pc0, pd0, pe0, pf0, pg0, ph0, rfl⟩ := h0.form
  have mz0 := mz_le a0
  have I1 := h1
  obtain ⟨pa1, pb1, rfl⟩ := h1.form
  have I2 := h2
  obtain ⟨pa2, pb2, rfl⟩ := h2.form
  go_enter Try.func3, Try.ntmps3
  refine gc_enter (N := 138) rfl (look_cons (k := 0) rfl (look_cons (k := 1) rfl (look_cons (k := 2) rfl (look_nil _)))) ?_
  refine gc_seq fun K1 hK1 => ?_
  refine gc_region ?_
  refine g_op (.free rfl) fun K3 hK3 => ?_
  refine go_box rfl rfl rfl rfl rfl ?_
  intro B2
  refine hK3 _ _ ?_
  refine g_v (.free rfl) rfl rfl (qt_assign rfl rfl) ?_
  refine g_nil ?_
  refine gk_then (hK1 _ _ ?_)
  refine gc_seq fun K4 hK4 => ?_
  refine gc_seq fun K5 hK5 => ?_
  refine gc_region ?_
  refine g_v (.free rfl) rfl rfl (qt_move rfl rfl) ?_
  refine g_v (.free rfl) rfl rfl (qt_len rfl rfl ulE1 (fun w M => ⟨_, _, rfl⟩)) ?_
  refine g_v (.free rfl) rfl rfl (qt_gtr rfl rfl rfl) ?_
  refine g_nil ?_
  refine gk_then (hK5 _ _ ?_)
  refine gc_cond rfl (fun hc0 => ?_) (fun hc0 => ?_)
  · try simp only [decide_eq_true_eq, decide_eq_false_iff_not, Bool.not_eq_true', Bool.not_eq_false', Bool.not_eq_eq_eq_not, Bool.not_true, Bool.not_false, ne_eq, Decidable.not_not, Classical.not_not] at hc0
    refine gc_seq fun K6 hK6 => ?_
    refine gc_region ?_
    refine g_v (.free rfl) rfl rfl (qt_assign rfl rfl) ?_
    refine g_nil ?_
    refine gk_then (hK6 _ _ ?_)
    refine gc_ret ?_
    refine gk_then_ret ?_
    refine ret_1 rfl rfl  (fun w M => ?_)
    exact ⟨rfl, M.1⟩
  · try simp only [decide_eq_true_eq, decide_eq_false_iff_not, Bool.not_eq_true', Bool.not_eq_false', Bool.not_eq_eq_eq_not, Bool.not_true, Bool.not_false, ne_eq, Decidable.not_not, Classical.not_not] at hc0
    first | (exfalso; omega) | exact absurd rfl hc0 | (simp at hc0)

set_option maxHeartbeats 1000000 in
set_option maxRecDepth 100000 in
theorem big1 (w : World) (v0 : Value) (a0 : Cat) (v1 : Value) (a1 : List Int) (v2 : Value) (a2 : List Int) (r0 : Cat) (r1 : Int) (h0 : InC w v0 a0) (h1 : In w v1 a1) (h2 : In w v2 a2) (l1 : a1.length ≤ 1048576) (nl : ¬ (a2.length ≤ 1048576)) :
    Calls Try.prog 3 #[v0, v1, v2] w (RetB w true) := by
  have I0 := h0
  obtain ⟨pa0, pb0, pc0, pd0, pe0, pf0, pg0, ph0, rfl⟩ := h0.form
  have mz0 := mz_le a0
  have I1 := h1
  obtain ⟨pa1, pb1, rfl⟩ := h1.form
  have I2 := h2
  obtain ⟨pa2, pb2, rfl⟩ := h2.form
  go_enter Try.func3, Try.ntmps3
  refine gc_enter (N := 138) rfl (look_cons (k := 0) rfl (look_cons (k := 1) rfl (look_cons (k := 2) rfl (look_nil _)))) ?_
  refine gc_seq fun K1 hK1 => ?_
  refine gc_region ?_
  refine g_op (.free rfl) fun K3 hK3 => ?_
  refine go_box rfl rfl rfl rfl rfl ?_
  intro B2
  refine hK3 _ _ ?_
  refine g_v (.free rfl) rfl rfl (qt_assign rfl rfl) ?_
  refine g_nil ?_
  refine gk_then (hK1 _ _ ?_)
  refine gc_seq fun K4 hK4 => ?_
  refine gc_seq fun K5 hK5 => ?_
  refine gc_region ?_
  refine g_v (.free rfl) rfl rfl (qt_move rfl rfl) ?_
  refine g_v (.free rfl) rfl rfl (qt_len rfl rfl ulE1 (fun w M => ⟨_, _, rfl⟩)) ?_
  refine g_v (.free rfl) rfl rfl (qt_gtr rfl rfl rfl) ?_
  refine g_nil ?_
  refine gk_then (hK5 _ _ ?_)
  refine gc_cond rfl (fun hc0 => ?_) (fun hc0 => ?_)
  · try simp only [decide_eq_true_eq, decide_eq_false_iff_not, Bool.not_eq_true', Bool.not_eq_false', Bool.not_eq_eq_eq_not, Bool.not_true, Bool.not_false, ne_eq, Decidable.not_not, Classical.not_not] at hc0
    first | (exfalso; omega) | exact absurd rfl hc0 | (simp at hc0)
  · try simp only [decide_eq_true_eq, decide_eq_false_iff_not, Bool.not_eq_true', Bool.not_eq_false', Bool.not_eq_eq_eq_not, Bool.not_true, Bool.not_false, ne_eq, Decidable.not_not, Classical.not_not] at hc0
    refine gc_skip ?_
    refine gk_then (hK4 _ _ ?_)
    refine gc_seq fun K6 hK6 => ?_
    refine gc_seq fun K7 hK7 => ?_
    refine gc_region ?_
    refine g_v (.free rfl) rfl rfl (qt_move rfl rfl) ?_
    refine g_v (.free rfl) rfl rfl (qt_len rfl rfl ulE1 (fun w M => ⟨_, _, rfl⟩)) ?_
    refine g_v (.free rfl) rfl rfl (qt_gtr rfl rfl rfl) ?_
    refine g_nil ?_
    refine gk_then (hK7 _ _ ?_)
    refine gc_cond rfl (fun hc1 => ?_) (fun hc1 => ?_)
    · try simp only [decide_eq_true_eq, decide_eq_false_iff_not, Bool.not_eq_true', Bool.not_eq_false', Bool.not_eq_eq_eq_not, Bool.not_true, Bool.not_false, ne_eq, Decidable.not_not, Classical.not_not] at hc1
      refine gc_seq fun K8 hK8 => ?_
      refine gc_region ?_
      refine g_v (.free rfl) rfl rfl (qt_assign rfl rfl) ?_
      refine g_nil ?_
      refine gk_then (hK8 _ _ ?_)
      refine gc_ret ?_
      refine gk_then_ret ?_
      refine ret_1 rfl rfl  (fun w M => ?_)
      exact ⟨rfl, M.1⟩
    · try simp only [decide_eq_true_eq, decide_eq_false_iff_not, Bool.not_eq_true', Bool.not_eq_false', Bool.not_eq_eq_eq_not, Bool.not_true, Bool.not_false, ne_eq, Decidable.not_not, Classical.not_not] at hc1
      first | (exfalso; omega) | exact absurd rfl hc1 | (simp at hc1)

set_option maxHeartbeats 1000000 in
set_option maxRecDepth 100000 in
theorem big2 (w : World) (v0 : Value) (a0 : Cat) (v1 : Value) (a1 : List Int) (v2 : Value) (a2 : List Int) (r0 : Cat) (r1 : Int) (h0 : InC w v0 a0) (h1 : In w v1 a1) (h2 : In w v2 a2) (l1 : a1.length ≤ 1048576) (l2 : a2.length ≤ 1048576) (nl : ¬ (szM a0 ≤ 1048576)) :
    Calls Try.prog 3 #[v0, v1, v2] w (RetB w true) := by
  have I0 := h0
  obtain ⟨pa0, pb0, pc0, pd0, pe0, pf0, pg0, ph0, rfl⟩ := h0.form
  have mz0 := mz_le a0
  have I1 := h1
  obtain ⟨pa1, pb1, rfl⟩ := h1.form
  have I2 := h2
  obtain ⟨pa2, pb2, rfl⟩ := h2.form
  go_enter Try.func3, Try.ntmps3
  refine gc_enter (N := 138) rfl (look_cons (k := 0) rfl (look_cons (k := 1) rfl (look_cons (k := 2) rfl (look_nil _)))) ?_
  refine gc_seq fun K1 hK1 => ?_
  refine gc_region ?_
  refine g_op (.free rfl) fun K3 hK3 => ?_
  refine go_box rfl rfl rfl rfl rfl ?_
  intro B2
  refine hK3 _ _ ?_
  refine g_v (.free rfl) rfl rfl (qt_assign rfl rfl) ?_
  refine g_nil ?_
  refine gk_then (hK1 _ _ ?_)
  refine gc_seq fun K4 hK4 => ?_
  refine gc_seq fun K5 hK5 => ?_
  refine gc_region ?_
  refine g_v (.free rfl) rfl rfl (qt_move rfl rfl) ?_
  refine g_v (.free rfl) rfl rfl (qt_len rfl rfl ulE1 (fun w M => ⟨_, _, rfl⟩)) ?_
  refine g_v (.free rfl) rfl rfl (qt_gtr rfl rfl rfl) ?_
  refine g_nil ?_
  refine gk_then (hK5 _ _ ?_)
  refine gc_cond rfl (fun hc0 => ?_) (fun hc0 => ?_)
  · try simp only [decide_eq_true_eq, decide_eq_false_iff_not, Bool.not_eq_true', Bool.not_eq_false', Bool.not_eq_eq_eq_not, Bool.not_true, Bool.not_false, ne_eq, Decidable.not_not, Classical.not_not] at hc0
    first | (exfalso; omega) | exact absurd rfl hc0 | (simp at hc0)
  · try simp only [decide_eq_true_eq, decide_eq_false_iff_not, Bool.not_eq_true', Bool.not_eq_false', Bool.not_eq_eq_eq_not, Bool.not_true, Bool.not_false, ne_eq, Decidable.not_not, Classical.not_not] at hc0
    refine gc_skip ?_
    refine gk_then (hK4 _ _ ?_)
    refine gc_seq fun K6 hK6 => ?_
    refine gc_seq fun K7 hK7 => ?_
    refine gc_region ?_
    refine g_v (.free rfl) rfl rfl (qt_move rfl rfl) ?_
    refine g_v (.free rfl) rfl rfl (qt_len rfl rfl ulE1 (fun w M => ⟨_, _, rfl⟩)) ?_
    refine g_v (.free rfl) rfl rfl (qt_gtr rfl rfl rfl) ?_
    refine g_nil ?_
    refine gk_then (hK7 _ _ ?_)
    refine gc_cond rfl (fun hc1 => ?_) (fun hc1 => ?_)
    · try simp only [decide_eq_true_eq, decide_eq_false_iff_not, Bool.not_eq_true', Bool.not_eq_false', Bool.not_eq_eq_eq_not, Bool.not_true, Bool.not_false, ne_eq, Decidable.not_not, Classical.not_not] at hc1
      first | (exfalso; omega) | exact absurd rfl hc1 | (simp at hc1)
    · try simp only [decide_eq_true_eq, decide_eq_false_iff_not, Bool.not_eq_true', Bool.not_eq_false', Bool.not_eq_eq_eq_not, Bool.not_true, Bool.not_false, ne_eq, Decidable.not_not, Classical.not_not] at hc1
      refine gc_skip ?_
      refine gk_then (hK6 _ _ ?_)
      refine gc_seq fun K8 hK8 => ?_
      refine gc_region ?_
      refine g_v (.free rfl) rfl rfl (qt_assign rfl rfl) ?_
      refine g_nil ?_
      refine gk_then (hK8 _ _ ?_)
      refine gc_seq fun K9 hK9 => ?_
      refine gc_region ?_
      refine g_v (.free rfl) rfl rfl (qt_loadS (n := 0) rfl rfl Try.underlying25 rfl (by kernel_rfl) rfl) ?_
      refine g_v (.free rfl) rfl rfl (qt_move rfl rfl) ?_
      refine g_q (.free rfl) rfl rfl (qt_call rfl Try.func8 rfl (by decide) rfl (fun w M => szC_gt w _ _ _ (inC_below M.1 I0) (by first | assumption | omega) (by first | assumption | omega) (by first | assumption | omega))) ?_
      refine g_v (.free rfl) rfl rfl (qt_assign rfl rfl) ?_
      refine g_nil ?_
      refine gk_then (hK9 _ _ ?_)
      refine gc_seq fun K10 hK10 => ?_
      refine gc_seq fun K11 hK11 => ?_
      refine gc_region ?_
      refine g_v (.free rfl) rfl rfl (qt_move rfl rfl) ?_
      refine g_v (.free rfl) rfl rfl (qt_lss_t rfl rfl rfl (by decide)) ?_
      refine g_nil ?_
      refine gk_then (hK11 _ _ ?_)
      refine gc_cond_t rfl ?_
      refine gc_seq fun K12 hK12 => ?_
      refine gc_region ?_
      refine g_v (.free rfl) rfl rfl (qt_assign rfl rfl) ?_
      refine g_nil ?_
      refine gk_then (hK12 _ _ ?_)
      refine gc_ret ?_
      refine gk_then_ret ?_
      refine ret_1 rfl rfl  (fun w M => ?_)
      exact ⟨rfl, M.1⟩

theorem walk (w : World) (v0 : Value) (a0 : Cat) (v1 : Value) (a1 : List Int) (v2 : Value) (a2 : List Int) (r0 : Cat) (r1 : Int) (h0 : InC w v0 a0) (h1 : In w v1 a1) (h2 : In w v2 a2) (hr0 : mzC r0 ≤ 1152921504606846) (hspec : (∀ (w : World) (v0 : Value) (v1 : Value) (v2 : Value), RdC w v0 a0 → Rd w v1 a1 → Rd w v2 a2 → CapV v1 → CapV v2 → Calls Try.prog 9 #[v0, v1, v2] w (RetCI w r0 r1))) (himpl : (∀ (w : World) (v0 : Value) (v1 : Value) (v2 : Value), RdC w v0 a0 → Rd w v1 a1 → Rd w v2 a2 → Calls Try.prog 12 #[v0, v1, v2] w (RetCI w r0 r1))) :
    Calls Try.prog 3 #[v0, v1, v2] w (RetB w true) := by
  by_cases l1 : a1.length ≤ 1048576
  rotate_left
  · exact big0 w v0 a0 v1 a1 v2 a2 r0 r1 h0 h1 h2 l1
  by_cases l2 : a2.length ≤ 1048576
  rotate_left
  · exact big1 w v0 a0 v1 a1 v2 a2 r0 r1 h0 h1 h2 l1 l2
  by_cases l0 : szM a0 ≤ 1048576
  rotate_left
  · exact big2 w v0 a0 v1 a1 v2 a2 r0 r1 h0 h1 h2 l1 l2 l0
  exact main w v0 a0 v1 a1 v2 a2 r0 r1 h0 l0 h1 l1 h2 l2 hr0 hspec himpl

set_option maxHeartbeats 4000000 in
set_option maxRecDepth 100000 in
theorem lifted (os : Os) (started : os.Started) (H : Type) (enc : TypeId × Value → H) :
    ReturnsInHanded {} Try.checked os 3 .any (Rows.fnExactRenumberCategorySpec.pre6 enc Try.prog Try.f3 Rows.fnExactRenumberCategoryRow.domain false) (Rows.fnExactRenumberCategorySpec.post enc Try.prog Try.f3 false true false false) := by
  refine returnsInHanded_of_change (C := Try.checked) own started (by kernel_rfl) Try.func3
    (ChangeSpec.witness6 (enc := enc) (C := Try.checked) false ⟨#[], #[.agg #[.int .i64 0, .slice none 0 0, .slice none 0 0, .slice none 0 0, .slice none 0 0], .slice none 0 0, .slice none 0 0], []⟩ 8 (by kernel_rfl) (by kernel_rfl) (by kernel_rfl) (by kernel_rfl)) ?_
  intro W base args ds gs before hval0 hW _ _
  have hval : ∀ (j : Nat) t v, Try.f3.params[j]? = some t → args[j]? = some v → Value.okWide Try.prog W .any base t v := hval0
  have hW' := hW
  obtain ⟨p, q, hA0, hV, rfl, _, _⟩ := hW
  have hA : DataW.TrodAll enc Try.prog W 0 (fun _ => true) true Try.f3.params.toList args.toList ds p := hA0
  rw [Try.params3] at hA hval
  obtain ⟨v0, vs0, d0, ds0, p0, q0, hargs, rfl, rfl, t0, s0⟩ := trodAll_cons hA
  obtain ⟨v1, vs1, d1, ds1, p1, q1, rfl, rfl, rfl, t1, s1⟩ := trodAll_cons s0
  obtain ⟨v2, vs2, d2, ds2, p2, q2, rfl, rfl, rfl, t2, s2⟩ := trodAll_cons s1
  obtain ⟨rfl, rfl, rfl⟩ := trodAll_nil s2
  obtain rfl : args = #[v0, v1, v2] := by cases args; simp_all
  obtain ⟨rfl, rfl⟩ := trodVars_none hV
  obtain ⟨a0, h0⟩ := open_inC (hval 0 25 v0 rfl rfl) t0
  obtain ⟨a1, h1⟩ := open_in (hval 1 22 v1 rfl rfl) t1
  obtain ⟨a2, h2⟩ := open_in (hval 2 22 v2 rfl rfl) t2
  clear hA0 hval0
  refine (walk W v0 a0 v1 a1 v2 a2 (fRenumberCategory a0 a1 a2).1 (fRenumberCategory a0 a1 a2).2 h0 h1 h2 (bound_RenumberCategory a0 a1 a2) (fun u v0 v1 v2 k0 k1 k2 c1 c2 => spec_RenumberCategory u v0 a0 v1 a1 v2 a2 k0 k1 k2 c1 c2) (fun u v0 v1 v2 k0 k1 k2 => impl_RenumberCategory u v0 a0 v1 a1 v2 a2 k0 k1 k2)).mono fun e W' ⟨he, hg⟩ => ?_
  subst he
  exact ⟨_, rfl, law_post rfl (by kernel_rfl) hW' (by kernel_rfl) rfl rfl rfl hg⟩

theorem over : Rows.fnExactRenumberCategoryRow.holds Try.pinned (OpenSpec.ofChange Rows.fnExactRenumberCategorySpec) :=
  OpenClaim.holds_of_wide 3 Try.f3 rfl rfl rfl rfl rfl rfl rfl ⟨rfl, rfl, rfl, rfl, rfl⟩ rfl rfl rfl rfl rfl (by kernel_rfl) Try.func3 (by kernel_rfl)
    (of_decide_eq_true (by kernel_rfl)) (by unfold Func.isWrapper; first | (rw [if_pos (by decide +kernel)]; kernel_rfl) | (rw [if_neg (by decide +kernel)]; exact ⟨rfl, rfl⟩))
    (fun os started H enc _ => lifted os started H enc)

theorem proved : Rows.FnExactRenumberCategorySaid := over
end Go.Proofs.Ytgkfampgofjkfaa.exactRenumberCategory
