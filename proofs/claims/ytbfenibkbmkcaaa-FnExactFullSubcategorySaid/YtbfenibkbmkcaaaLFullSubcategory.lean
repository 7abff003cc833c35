
/- The exact law of FullSubcategory: its model and its program do the same, in memory of their own. Written by wip/tools/genlaw.py. -/
import Derived.Test.YtbfenibkbmkcaaaBase
import Derived.Test.YtbfenibkbmkcaaaLawC
import Derived.Test.YtbfenibkbmkcaaaRul4
import Derived.Test.YtbfenibkbmkcaaaFull
set_option linter.unusedSimpArgs false
set_option linter.unusedVariables false
set_option linter.unusedSectionVars false
namespace Go.Proofs.Ytbfenibkbmkcaaa.exactFullSubcategory
open Go.ChangeShapes Go.WideShapes Go.ChangeAt Go.RowKit
set_option maxHeartbeats 4000000 in
set_option maxRecDepth 100000 in
theorem main (w : World) (v0 : Value) (a0 : Cat) (v1 : Value) (a1 : List Int) (r0 : Cat) (r1 : Int) (h0 : InC w v0 a0) (l0 : szM a0 ≤ 1048576) (h1 : In w v1 a1) (l1 : a1.length ≤ 1048576) (hr0 : mzC r0 ≤ 1152921504606846) (hspec : (∀ (w : World) (v0 : Value) (v1 : Value), RdC w v0 a0 → Rd w v1 a1 → Calls Try.prog 40 #[v0, v1] w (RetCI w r0 r1))) (himpl : (∀ (w : World) (v0 : Value) (v1 : Value), RdC w v0 a0 → Rd w v1 a1 → Calls Try.prog 42 #[v0, v1] w (RetCI w r0 r1))) :
    Calls Try.prog 11 #[v0, v1] w (RetB w true) := by
  have R0 := h0.rd (by omega)
  have I0 := h0
  obtain ⟨pa0, pb0, pc0, pd0, pe0, pf0, pg0, ph0, rfl⟩ := h0.form
  have mz0 := mz_le a0
  have R1 := h1.rd (by omega)
  have I1 := h1
  obtain ⟨pa1, pb1, rfl⟩ := h1.form
  go_enter Try.func11, Try.ntmps11
  refine gc_enter (N := 117) rfl (look_cons (k := 0) rfl (look_cons (k := 1) rfl (look_nil _))) ?_
  refine gc_seq fun K1 hK1 => ?_
  refine gc_region ?_
  refine g_op (.free rfl) fun K3 hK3 => ?_
  refine go_box rfl rfl rfl rfl rfl ?_
  intro B2
  refine hK3 _ _ ?_
  refine g_v (.free rfl) rfl rfl (qt_assign rfl rfl) ?_
  refine g_nil ?_
  refine gk_then (hK1 _ _ ?_)
  refine gc_seq fun K4 hK4 => ?_
  refine gc_seq fun K5 hK5 => ?_
  refine gc_region ?_
  refine g_v (.free rfl) rfl rfl (qt_move rfl rfl) ?_
  refine g_v (.free rfl) rfl rfl (qt_len rfl rfl ulE1 (fun w M => lenV_rd R1)) ?_
  refine g_v (.free rfl) rfl rfl (qt_gtr rfl rfl rfl) ?_
  refine g_nil ?_
  refine gk_then (hK5 _ _ ?_)
  refine gc_cond rfl (fun hc0 => ?_) (fun hc0 => ?_)
  · try simp only [decide_eq_true_eq, decide_eq_false_iff_not, Bool.not_eq_true', Bool.not_eq_false', Bool.not_eq_eq_eq_not, Bool.not_true, Bool.not_false, ne_eq, Decidable.not_not, Classical.not_not] at hc0
    first | (exfalso; omega) | exact absurd rfl hc0 | (simp at hc0)
  · try simp only [decide_eq_true_eq, decide_eq_false_iff_not, Bool.not_eq_true', Bool.not_eq_false', Bool.not_eq_eq_eq_not, Bool.not_true, Bool.not_false, ne_eq, Decidable.not_not, Classical.not_not] at hc0
    refine gc_skip ?_
    refine gk_then (hK4 _ _ ?_)
    refine gc_seq fun K6 hK6 => ?_
    refine gc_region ?_
    refine g_v (.free rfl) rfl rfl (qt_assign rfl rfl) ?_
    refine g_nil ?_
    refine gk_then (hK6 _ _ ?_)
    refine gc_seq fun K7 hK7 => ?_
    refine gc_region ?_
    refine g_v (.free rfl) rfl rfl (qt_loadS (n := 0) rfl rfl Try.underlying42 rfl (by kernel_rfl) rfl) ?_
    refine g_v (.free rfl) rfl rfl (qt_move rfl rfl) ?_
    refine g_q (.free rfl) rfl rfl (qt_call rfl Try.func39 rfl (by decide) rfl (fun w M => szC_le w _ _ _ (inC_below M.1 I0) (by first | assumption | omega) (by first | assumption | omega) (by first | assumption | omega))) ?_
    refine g_v (.free rfl) rfl rfl (qt_assign rfl rfl) ?_
    refine g_nil ?_
    refine gk_then (hK7 _ _ ?_)
    refine gc_seq fun K8 hK8 => ?_
    refine gc_seq fun K9 hK9 => ?_
    refine gc_region ?_
    refine g_v (.free rfl) rfl rfl (qt_move rfl rfl) ?_
    refine g_v (.free rfl) rfl rfl (qt_lss rfl rfl rfl) ?_
    refine g_nil ?_
    refine gk_then (hK9 _ _ ?_)
    refine gc_cond rfl (fun hc1 => ?_) (fun hc1 => ?_)
    · try simp only [decide_eq_true_eq, decide_eq_false_iff_not, Bool.not_eq_true', Bool.not_eq_false', Bool.not_eq_eq_eq_not, Bool.not_true, Bool.not_false, ne_eq, Decidable.not_not, Classical.not_not] at hc1
      first | (exfalso; omega) | exact absurd rfl hc1 | (simp at hc1)
    · try simp only [decide_eq_true_eq, decide_eq_false_iff_not, Bool.not_eq_true', Bool.not_eq_false', Bool.not_eq_eq_eq_not, Bool.not_true, Bool.not_false, ne_eq, Decidable.not_not, Classical.not_not] at hc1
      refine gc_skip ?_
      refine gk_then (hK8 _ _ ?_)
      refine gc_seq fun K10 hK10 => ?_
      refine gc_region ?_
      refine g_v (.free rfl) rfl rfl (qt_loadS (n := 0) rfl rfl Try.underlying42 rfl (by kernel_rfl) rfl) ?_
      refine g_op (.free rfl) fun K12 hK12 => ?_
      refine go_callC1 rfl rfl rfl Try.func41 rfl (by decide) rfl (fun w M => toC_any w _ _ (mem_rdC M R0)) ?_
      intro ca11 cb11 cc11 cd11 ce11 cf11 cg11 ch11
      refine hK12 _ _ ?_
      refine g_v (.free rfl) rfl rfl (qt_move rfl rfl) ?_
      refine g_op (.free rfl) fun K14 hK14 => ?_
      refine go_callL1 rfl rfl rfl Try.func16 rfl (by decide) rfl (fun w M => to_any w _ _ (mem_rd M R1)) ?_
      intro ca13 cb13 cc13
      refine hK14 _ _ ?_
      refine g_op (.free rfl) fun K16 hK16 => ?_
      refine go_callCI1 rfl rfl rfl Try.func40 rfl (by decide) rfl (fun w M => hspec w _ _ ((mem_ownC (n := 1) M rfl).rd) ((mem_own1 (n := 2) M rfl).rd)) ?_
      intro ca15 cb15 cc15 cd15 ce15 cf15 cg15 ch15
      refine hK16 _ _ ?_
      refine g_v (.free rfl) rfl rfl (qt_move rfl rfl) ?_
      refine g_v (.free rfl) rfl rfl (qt_extract rfl rfl rfl) ?_
      refine g_v (.free rfl) rfl rfl (qt_extract rfl rfl rfl) ?_
      refine g_op (.free rfl) fun K18 hK18 => ?_
      refine go_alloc (z := (.agg #[.int .i64 0, .slice none 0 0, .slice none 0 0, .slice none 0 0, .slice none 0 0])) (cs := [.int .i64 0, .slice none 0 0, .slice none 0 0, .slice none 0 0, .slice none 0 0]) rfl rfl rfl (fun w => by kernel_rfl) rfl ?_
      intro B17
      refine hK18 _ _ ?_
      refine g_op (.free rfl) fun K19 hK19 => ?_
      refine go_storeS (n := 4) rfl rfl rfl rfl (by kernel_rfl) rfl rfl rfl ?_
      refine hK19 _ _ ?_
      refine g_v (.free rfl) rfl rfl (qt_assign rfl rfl) ?_
      refine g_nil ?_
      refine gk_then (hK10 _ _ ?_)
      refine gc_seq fun K20 hK20 => ?_
      refine gc_region ?_
      refine g_v (.free rfl) rfl rfl (qt_loadS (n := 0) rfl rfl Try.underlying42 rfl (by kernel_rfl) rfl) ?_
      refine g_op (.free rfl) fun K22 hK22 => ?_
      refine go_callC1 rfl rfl rfl Try.func41 rfl (by decide) rfl (fun w M => toC_any w _ _ (mem_rdC M R0)) ?_
      intro ca21 cb21 cc21 cd21 ce21 cf21 cg21 ch21
      refine hK22 _ _ ?_
      refine g_op (.free rfl) fun K24 hK24 => ?_
      refine go_alloc (z := (.agg #[.int .i64 0, .slice none 0 0, .slice none 0 0, .slice none 0 0, .slice none 0 0])) (cs := [.int .i64 0, .slice none 0 0, .slice none 0 0, .slice none 0 0, .slice none 0 0]) rfl rfl rfl (fun w => by kernel_rfl) rfl ?_
      intro B23
      refine hK24 _ _ ?_
      refine g_op (.free rfl) fun K25 hK25 => ?_
      refine go_storeS (n := 6) rfl rfl rfl rfl (by kernel_rfl) rfl rfl rfl ?_
      refine hK25 _ _ ?_
      refine g_nil ?_
      refine gk_then (hK20 _ _ ?_)
      refine gc_seq fun K26 hK26 => ?_
      refine gc_region ?_
      refine g_v (.free rfl) rfl rfl (qt_move rfl rfl) ?_
      refine g_op (.free rfl) fun K28 hK28 => ?_
      refine go_callL1 rfl rfl rfl Try.func16 rfl (by decide) rfl (fun w M => to_any w _ _ (mem_rd M R1)) ?_
      intro ca27 cb27 cc27
      refine hK28 _ _ ?_
      refine g_v (.free rfl) rfl rfl (qt_assign rfl rfl) ?_
      refine g_nil ?_
      refine gk_then (hK26 _ _ ?_)
      refine gc_seq fun K29 hK29 => ?_
      refine gc_region ?_
      refine g_v (.free rfl) rfl rfl (qt_loadS (n := 6) rfl rfl Try.underlying44 rfl (by kernel_rfl) rfl) ?_
      refine g_v (.free rfl) rfl rfl (qt_move rfl rfl) ?_
      refine g_op (.free rfl) fun K31 hK31 => ?_
      refine go_callCI1 rfl rfl rfl Try.func42 rfl (by decide) rfl (fun w M => himpl w _ _ ((mem_ownC (n := 5) M rfl).rd) ((mem_own1 (n := 7) M rfl).rd)) ?_
      intro ca30 cb30 cc30 cd30 ce30 cf30 cg30 ch30
      refine hK31 _ _ ?_
      refine g_v (.free rfl) rfl rfl (qt_move rfl rfl) ?_
      refine g_v (.free rfl) rfl rfl (qt_extract rfl rfl rfl) ?_
      refine g_v (.free rfl) rfl rfl (qt_extract rfl rfl rfl) ?_
      refine g_op (.free rfl) fun K33 hK33 => ?_
      refine go_alloc (z := (.agg #[.int .i64 0, .slice none 0 0, .slice none 0 0, .slice none 0 0, .slice none 0 0])) (cs := [.int .i64 0, .slice none 0 0, .slice none 0 0, .slice none 0 0, .slice none 0 0]) rfl rfl rfl (fun w => by kernel_rfl) rfl ?_
      intro B32
      refine hK33 _ _ ?_
      refine g_op (.free rfl) fun K34 hK34 => ?_
      refine go_storeS (n := 9) rfl rfl rfl rfl (by kernel_rfl) rfl rfl rfl ?_
      refine hK34 _ _ ?_
      refine g_v (.free rfl) rfl rfl (qt_assign rfl rfl) ?_
      refine g_nil ?_
      refine gk_then (hK29 _ _ ?_)
      refine gc_seq fun K35 hK35 => ?_
      refine gc_seq fun K36 hK36 => ?_
      refine gc_region ?_
      refine g_v (.free rfl) rfl rfl (qt_loadS (n := 9) rfl rfl Try.underlying44 rfl (by kernel_rfl) rfl) ?_
      refine g_v (.free rfl) rfl rfl (qt_loadS (n := 4) rfl rfl Try.underlying44 rfl (by kernel_rfl) rfl) ?_
      refine g_q (.free rfl) rfl rfl (qt_call rfl Try.func43 rfl (by decide) rfl (fun w M => eqC_refl_any w _ _ _ ((mem_ownC (n := 8) M rfl).rd) ((mem_ownC (n := 3) M rfl).rd))) ?_
      refine g_v (.free rfl) rfl rfl (qt_not rfl rfl) ?_
      refine g_v (.free rfl) rfl rfl (qt_move rfl rfl) ?_
      refine g_v (.held _ _ _ rfl rfl rfl) rfl rfl (qt_move rfl rfl) ?_
      refine g_v (.held _ _ _ rfl rfl rfl) rfl rfl (qt_move rfl rfl) ?_
      refine g_v (.held _ _ _ rfl rfl rfl) rfl rfl (qt_neq_f rfl rfl rfl (fun h => h rfl)) ?_
      refine g_v (.free rfl) rfl rfl (qt_pick_f rfl rfl rfl) ?_
      refine g_nil ?_
      refine gk_then (hK36 _ _ ?_)
      refine gc_cond_f rfl ?_
      refine gc_skip ?_
      refine gk_then (hK35 _ _ ?_)
      refine gc_seq fun K37 hK37 => ?_
      refine gc_seq fun K38 hK38 => ?_
      try simp only [List.nil_append, List.cons_append, List.append_assoc, List.set_cons_succ, List.set_cons_zero]
      refine ga_start _ (fun w M => M) ?_
      refine ga_v 0 rfl (by kernel_rfl) (by kernel_rfl) (by kernel_rfl) (.free rfl) rfl rfl (qt_loadS (n := 6) rfl rfl Try.underlying44 rfl (by kernel_rfl) rfl) (fun _ _ _ h => h) ?_
      refine ga_v 1 rfl (by kernel_rfl) (by kernel_rfl) (by kernel_rfl) (.free rfl) rfl rfl (qt_loadS (n := 0) rfl rfl Try.underlying42 rfl (by kernel_rfl) rfl) (fun _ _ _ h => h) ?_
      refine ga_op 2 (by kernel_rfl) rfl (.free rfl) fun K40 hK40 => ?_
      refine go_callC1 rfl rfl rfl Try.func41 rfl (by decide) rfl (fun w M => toC_any w _ _ (mem_rdC M R0)) ?_
      intro ca39 cb39 cc39 cd39 ce39 cf39 cg39 ch39
      refine hK40 _ _ (fun w M => (mem_take 10 M :)) ?_
      refine ga_op 3 (by kernel_rfl) rfl (.free rfl) fun K41 hK41 => ?_
      refine go_q rfl rfl (qt_call rfl Try.func43 rfl (by decide) rfl (fun w M => eqC_refl_any w _ _ _ ((mem_ownC (n := 5) M rfl).rd) ((mem_ownC (n := 10) M rfl).rd))) ?_
      refine hK41 _ _ (fun w M => (mem_take 10 M :)) ?_
      refine ga_v 4 rfl (by kernel_rfl) (by kernel_rfl) (by kernel_rfl) (.free rfl) rfl rfl (qt_not rfl rfl) (fun _ _ _ h => h) ?_
      refine ga_done (by kernel_rfl) ?_
      refine gk_then (hK38 _ _ ?_)
      refine gc_cond_f rfl ?_
      refine gc_skip ?_
      refine gk_then (hK37 _ _ ?_)
      refine gc_seq fun K42 hK42 => ?_
      refine gc_seq fun K43 hK43 => ?_
      refine gc_region ?_
      refine g_v (.free rfl) rfl rfl (qt_move rfl rfl) ?_
      refine g_v (.free rfl) rfl rfl (qt_move rfl rfl) ?_
      refine g_op (.free rfl) fun K45 hK45 => ?_
      refine go_callL1 rfl rfl rfl Try.func16 rfl (by decide) rfl (fun w M => to_any w _ _ (mem_rd M R1)) ?_
      intro ca44 cb44 cc44
      refine hK45 _ _ ?_
      refine g_q (.free rfl) rfl rfl (qt_call rfl Try.func18 rfl (by decide) rfl (fun w M => eq_refl_any w _ _ _ ((mem_own1 (n := 7) M rfl).rd) ((mem_own1 (n := 11) M rfl).rd))) ?_
      refine g_v (.free rfl) rfl rfl (qt_not rfl rfl) ?_
      refine g_nil ?_
      refine gk_then (hK43 _ _ ?_)
      refine gc_cond_f rfl ?_
      refine gc_skip ?_
      refine gk_then (hK42 _ _ ?_)
      refine gc_seq fun K46 hK46 => ?_
      refine gc_region ?_
      refine g_v (.free rfl) rfl rfl (qt_assign rfl rfl) ?_
      refine g_nil ?_
      refine gk_then (hK46 _ _ ?_)
      refine gc_seq fun K47 hK47 => ?_
      refine gc_region ?_
      refine g_v (.free rfl) rfl rfl (qt_loadS (n := 6) rfl rfl Try.underlying44 rfl (by kernel_rfl) rfl) ?_
      refine g_v (.free rfl) rfl rfl (qt_move rfl rfl) ?_
      refine g_op (.free rfl) fun K48 hK48 => ?_
      refine go_mark (ownCI _ (mkC _ _)) (n := 5) rfl rfl rfl Try.func44 rfl (by decide) rfl rfl (fun w S hS => markC_any w S _ _ _ hS (by omega) (by omega)) ?_
      refine hK48 _ _ ?_
      refine g_v (.free rfl) rfl rfl (qt_assign rfl rfl) ?_
      refine g_nil ?_
      refine gk_then (hK47 _ _ ?_)
      refine gc_seq fun K49 hK49 => ?_
      refine gc_region ?_
      refine g_v (.free rfl) rfl rfl (qt_move rfl rfl) ?_
      refine g_v (.free rfl) rfl rfl (qt_move rfl rfl) ?_
      refine g_op (.free rfl) fun K50 hK50 => ?_
      refine go_mark (own1I _ (upTo _ _)) (n := 7) rfl rfl rfl Try.func19 rfl (by decide) rfl rfl (fun w S hS => markS_any w S _ _ _ hS (by omega) (by omega)) ?_
      refine hK50 _ _ ?_
      refine g_v (.free rfl) rfl rfl (qt_assign rfl rfl) ?_
      refine g_nil ?_
      refine gk_then (hK49 _ _ ?_)
      refine gc_seq fun K51 hK51 => ?_
      refine gc_seq fun K52 hK52 => ?_
      refine gc_region ?_
      refine g_v (.free rfl) rfl rfl (qt_move rfl rfl) ?_
      refine g_v (.free rfl) rfl rfl (qt_lss rfl rfl rfl) ?_
      refine g_splitv (.free rfl) rfl rfl (qt_move rfl rfl) (fun hs20_2 => ?_) (fun hs20_2 => ?_)
      · try simp only [decide_eq_true_eq, decide_eq_false_iff_not, Bool.not_eq_true', Bool.not_eq_false', Bool.not_eq_eq_eq_not, Bool.not_true, Bool.not_false, ne_eq, Decidable.not_not, Classical.not_not] at hs20_2
        first | (exfalso; omega) | exact absurd rfl hs20_2 | (simp at hs20_2)
      · try simp only [decide_eq_true_eq, decide_eq_false_iff_not, Bool.not_eq_true', Bool.not_eq_false', Bool.not_eq_eq_eq_not, Bool.not_true, Bool.not_false, ne_eq, Decidable.not_not, Classical.not_not] at hs20_2
        refine g_v (.held _ _ _ rfl rfl rfl) rfl rfl (qt_loadS (n := 9) rfl rfl Try.underlying44 rfl (by kernel_rfl) rfl) ?_
        refine g_v (.held _ _ _ rfl rfl rfl) rfl rfl (qt_loadS (n := 4) rfl rfl Try.underlying44 rfl (by kernel_rfl) rfl) ?_
        refine g_q (.held _ _ _ rfl rfl rfl) rfl rfl (qt_call rfl Try.func43 rfl (by decide) rfl (fun w M => eqC_refl_any w _ _ _ ((mem_ownC (n := 8) M rfl).rd) ((mem_ownC (n := 3) M rfl).rd))) ?_
        refine g_v (.held _ _ _ rfl rfl rfl) rfl rfl (qt_not rfl rfl) ?_
        refine g_v (.free rfl) rfl rfl (qt_pick_f rfl rfl rfl) ?_
        refine g_v (.free rfl) rfl rfl (qt_move rfl rfl) ?_
        refine g_v (.held _ _ _ rfl rfl rfl) rfl rfl (qt_move rfl rfl) ?_
        refine g_v (.held _ _ _ rfl rfl rfl) rfl rfl (qt_move rfl rfl) ?_
        refine g_v (.held _ _ _ rfl rfl rfl) rfl rfl (qt_neq_f rfl rfl rfl (fun h => h rfl)) ?_
        refine g_v (.free rfl) rfl rfl (qt_pick_f rfl rfl rfl) ?_
        refine g_nil ?_
        refine gk_then (hK52 _ _ ?_)
        refine gc_cond_f rfl ?_
        refine gc_skip ?_
        refine gk_then (hK51 _ _ ?_)
        refine gc_seq fun K53 hK53 => ?_
        refine gc_region ?_
        refine g_v (.free rfl) rfl rfl (qt_assign rfl rfl) ?_
        refine g_nil ?_
        refine gk_then (hK53 _ _ ?_)
        refine gc_seq fun K54 hK54 => ?_
        refine gc_region ?_
        refine g_v (.free rfl) rfl rfl (qt_loadS (n := 9) rfl rfl Try.underlying44 rfl (by kernel_rfl) rfl) ?_
        refine g_v (.free rfl) rfl rfl (qt_move rfl rfl) ?_
        refine g_op (.free rfl) fun K55 hK55 => ?_
        refine go_mark (ownCI _ (mkC _ _)) (n := 8) rfl rfl rfl Try.func44 rfl (by decide) rfl rfl (fun w S hS => markC_any w S _ _ _ hS (by omega) (by omega)) ?_
        refine hK55 _ _ ?_
        refine g_v (.free rfl) rfl rfl (qt_assign rfl rfl) ?_
        refine g_nil ?_
        refine gk_then (hK54 _ _ ?_)
        refine gc_seq fun K56 hK56 => ?_
        refine gc_region ?_
        refine g_v (.free rfl) rfl rfl (qt_assign rfl rfl) ?_
        refine g_nil ?_
        refine gk_then (hK56 _ _ ?_)
        refine gc_seq fun K57 hK57 => ?_
        refine gc_region ?_
        refine g_v (.free rfl) rfl rfl (qt_loadS (n := 9) rfl rfl Try.underlying44 rfl (by kernel_rfl) rfl) ?_
        refine g_v (.free rfl) rfl rfl (qt_move rfl rfl) ?_
        refine g_q (.free rfl) rfl rfl (qt_call rfl Try.func45 rfl (by decide) rfl (fun w M => heldC_any w _ _ _ ((mem_ownC (n := 8) M rfl).rd) (by first | assumption | omega) (by first | assumption | omega))) ?_
        refine g_v (.free rfl) rfl rfl (qt_assign rfl rfl) ?_
        refine g_nil ?_
        refine gk_then (hK57 _ _ ?_)
        refine gc_seq fun K58 hK58 => ?_
        refine gc_seq fun K59 hK59 => ?_
        refine gc_region ?_
        refine g_v (.free rfl) rfl rfl (qt_move rfl rfl) ?_
        refine g_v (.free rfl) rfl rfl (qt_lss rfl rfl rfl) ?_
        refine g_nil ?_
        refine gk_then (hK59 _ _ ?_)
        refine gc_cond rfl (fun hc2 => ?_) (fun hc2 => ?_)
        · try simp only [decide_eq_true_eq, decide_eq_false_iff_not, Bool.not_eq_true', Bool.not_eq_false', Bool.not_eq_eq_eq_not, Bool.not_true, Bool.not_false, ne_eq, Decidable.not_not, Classical.not_not] at hc2
          first | (exfalso; omega) | exact absurd rfl hc2 | (simp at hc2)
        · try simp only [decide_eq_true_eq, decide_eq_false_iff_not, Bool.not_eq_true', Bool.not_eq_false', Bool.not_eq_eq_eq_not, Bool.not_true, Bool.not_false, ne_eq, Decidable.not_not, Classical.not_not] at hc2
          refine gc_skip ?_
          refine gk_then (hK58 _ _ ?_)
          refine gc_seq fun K60 hK60 => ?_
          refine gc_seq fun K61 hK61 => ?_
          refine gc_region ?_
          refine g_v (.free rfl) rfl rfl (qt_move rfl rfl) ?_
          refine g_v (.free rfl) rfl rfl (qt_move rfl rfl) ?_
          refine g_v (.free rfl) rfl rfl (qt_neq rfl rfl rfl) ?_
          refine g_nil ?_
          refine gk_then (hK61 _ _ ?_)
          refine gc_cond rfl (fun hc3 => ?_) (fun hc3 => ?_)
          · try simp only [decide_eq_true_eq, decide_eq_false_iff_not, Bool.not_eq_true', Bool.not_eq_false', Bool.not_eq_eq_eq_not, Bool.not_true, Bool.not_false, ne_eq, Decidable.not_not, Classical.not_not] at hc3
            first | (exfalso; omega) | exact absurd rfl hc3 | (simp at hc3)
          · try simp only [decide_eq_true_eq, decide_eq_false_iff_not, Bool.not_eq_true', Bool.not_eq_false', Bool.not_eq_eq_eq_not, Bool.not_true, Bool.not_false, ne_eq, Decidable.not_not, Classical.not_not] at hc3
            refine gc_skip ?_
            refine gk_then (hK60 _ _ ?_)
            refine gc_seq fun K62 hK62 => ?_
            refine gc_region ?_
            refine g_v (.free rfl) rfl rfl (qt_loadS (n := 0) rfl rfl Try.underlying42 rfl (by kernel_rfl) rfl) ?_
            refine g_op (.free rfl) fun K64 hK64 => ?_
            refine go_callC1 rfl rfl rfl Try.func41 rfl (by decide) rfl (fun w M => toC_any w _ _ (mem_rdC M R0)) ?_
            intro ca63 cb63 cc63 cd63 ce63 cf63 cg63 ch63
            refine hK64 _ _ ?_
            refine g_v (.free rfl) rfl rfl (qt_move rfl rfl) ?_
            refine g_op (.free rfl) fun K66 hK66 => ?_
            refine go_callL1 rfl rfl rfl Try.func16 rfl (by decide) rfl (fun w M => to_any w _ _ (mem_rd M R1)) ?_
            intro ca65 cb65 cc65
            refine hK66 _ _ ?_
            refine g_op (.free rfl) fun K68 hK68 => ?_
            refine go_callCI1 rfl rfl rfl Try.func42 rfl (by decide) rfl (fun w M => himpl w _ _ ((mem_ownC (n := 12) M rfl).rd) ((mem_own1 (n := 13) M rfl).rd)) ?_
            intro ca67 cb67 cc67 cd67 ce67 cf67 cg67 ch67
            refine hK68 _ _ ?_
            refine g_v (.free rfl) rfl rfl (qt_move rfl rfl) ?_
            refine g_v (.free rfl) rfl rfl (qt_extract rfl rfl rfl) ?_
            refine g_v (.free rfl) rfl rfl (qt_extract rfl rfl rfl) ?_
            refine g_op (.free rfl) fun K70 hK70 => ?_
            refine go_alloc (z := (.agg #[.int .i64 0, .slice none 0 0, .slice none 0 0, .slice none 0 0, .slice none 0 0])) (cs := [.int .i64 0, .slice none 0 0, .slice none 0 0, .slice none 0 0, .slice none 0 0]) rfl rfl rfl (fun w => by kernel_rfl) rfl ?_
            intro B69
            refine hK70 _ _ ?_
            refine g_op (.free rfl) fun K71 hK71 => ?_
            refine go_storeS (n := 15) rfl rfl rfl rfl (by kernel_rfl) rfl rfl rfl ?_
            refine hK71 _ _ ?_
            refine g_v (.free rfl) rfl rfl (qt_assign rfl rfl) ?_
            refine g_nil ?_
            refine gk_then (hK62 _ _ ?_)
            refine gc_seq fun K72 hK72 => ?_
            refine gc_seq fun K73 hK73 => ?_
            refine gc_region ?_
            refine g_v (.free rfl) rfl rfl (qt_loadS (n := 15) rfl rfl Try.underlying44 rfl (by kernel_rfl) rfl) ?_
            refine g_v (.free rfl) rfl rfl (qt_loadS (n := 4) rfl rfl Try.underlying44 rfl (by kernel_rfl) rfl) ?_
            refine g_q (.free rfl) rfl rfl (qt_call rfl Try.func43 rfl (by decide) rfl (fun w M => eqC_refl_any w _ _ _ ((mem_ownC (n := 14) M rfl).rd) ((mem_ownC (n := 3) M rfl).rd))) ?_
            refine g_v (.free rfl) rfl rfl (qt_not rfl rfl) ?_
            refine g_v (.free rfl) rfl rfl (qt_move rfl rfl) ?_
            refine g_v (.held _ _ _ rfl rfl rfl) rfl rfl (qt_move rfl rfl) ?_
            refine g_v (.held _ _ _ rfl rfl rfl) rfl rfl (qt_move rfl rfl) ?_
            refine g_v (.held _ _ _ rfl rfl rfl) rfl rfl (qt_neq_f rfl rfl rfl (fun h => h rfl)) ?_
            refine g_v (.free rfl) rfl rfl (qt_pick_f rfl rfl rfl) ?_
            refine g_nil ?_
            refine gk_then (hK73 _ _ ?_)
            refine gc_cond_f rfl ?_
            refine gc_skip ?_
            refine gk_then (hK72 _ _ ?_)
            refine gc_seq fun K74 hK74 => ?_
            refine gc_region ?_
            refine g_v (.free rfl) rfl rfl (qt_assign rfl rfl) ?_
            refine g_nil ?_
            refine gk_then (hK74 _ _ ?_)
            refine gc_seq fun K75 hK75 => ?_
            refine gc_region ?_
            refine g_v (.free rfl) rfl rfl (qt_loadS (n := 9) rfl rfl Try.underlying44 rfl (by kernel_rfl) rfl) ?_
            refine g_v (.free rfl) rfl rfl (qt_move rfl rfl) ?_
            refine g_q (.free rfl) rfl rfl (qt_call rfl Try.func45 rfl (by decide) rfl (fun w M => heldC_any w _ _ _ ((mem_ownC (n := 8) M rfl).rd) (by first | assumption | omega) (by first | assumption | omega))) ?_
            refine g_v (.free rfl) rfl rfl (qt_assign rfl rfl) ?_
            refine g_nil ?_
            refine gk_then (hK75 _ _ ?_)
            refine gc_seq fun K76 hK76 => ?_
            refine gc_seq fun K77 hK77 => ?_
            refine gc_region ?_
            refine g_v (.free rfl) rfl rfl (qt_move rfl rfl) ?_
            refine g_v (.free rfl) rfl rfl (qt_lss rfl rfl rfl) ?_
            refine g_nil ?_
            refine gk_then (hK77 _ _ ?_)
            refine gc_cond rfl (fun hc4 => ?_) (fun hc4 => ?_)
            · try simp only [decide_eq_true_eq, decide_eq_false_iff_not, Bool.not_eq_true', Bool.not_eq_false', Bool.not_eq_eq_eq_not, Bool.not_true, Bool.not_false, ne_eq, Decidable.not_not, Classical.not_not] at hc4
              first | (exfalso; omega) | exact absurd rfl hc4 | (simp at hc4)
            · try simp only [decide_eq_true_eq, decide_eq_false_iff_not, Bool.not_eq_true', Bool.not_eq_false', Bool.not_eq_eq_eq_not, Bool.not_true, Bool.not_false, ne_eq, Decidable.not_not, Classical.not_not] at hc4
              refine gc_skip ?_
              refine gk_then (hK76 _ _ ?_)
              refine gc_seq fun K78 hK78 => ?_
              refine gc_seq fun K79 hK79 => ?_
              refine gc_region ?_
              refine g_v (.free rfl) rfl rfl (qt_move rfl rfl) ?_
              refine g_v (.free rfl) rfl rfl (qt_move rfl rfl) ?_
              refine g_v (.free rfl) rfl rfl (qt_neq rfl rfl rfl) ?_
              refine g_nil ?_
              refine gk_then (hK79 _ _ ?_)
              refine gc_cond rfl (fun hc5 => ?_) (fun hc5 => ?_)
              · try simp only [decide_eq_true_eq, decide_eq_false_iff_not, Bool.not_eq_true', Bool.not_eq_false', Bool.not_eq_eq_eq_not, Bool.not_true, Bool.not_false, ne_eq, Decidable.not_not, Classical.not_not] at hc5
                first | (exfalso; omega) | exact absurd rfl hc5 | (simp at hc5)
              · try simp only [decide_eq_true_eq, decide_eq_false_iff_not, Bool.not_eq_true', Bool.not_eq_false', Bool.not_eq_eq_eq_not, Bool.not_true, Bool.not_false, ne_eq, Decidable.not_not, Classical.not_not] at hc5
                refine gc_skip ?_
                refine gk_then (hK78 _ _ ?_)
                refine gc_seq fun K80 hK80 => ?_
                refine gc_region ?_
                refine g_v (.free rfl) rfl rfl (qt_assign rfl rfl) ?_
                refine g_nil ?_
                refine gk_then (hK80 _ _ ?_)
                refine gc_ret ?_
                refine ret_1 rfl rfl  (fun w M => ?_)
                exact ⟨rfl, M.1⟩

set_option maxHeartbeats 1000000 in
set_option maxRecDepth 100000 in
theorem big0 (w : World) (v0 : Value) (a0 : Cat) (v1 : Value) (a1 : List Int) (r0 : Cat) (r1 : Int) (h0 : InC w v0 a0) (h1 : In w v1 a1) (nl : ¬ (a1.length ≤ 1048576)) :
    Calls Try.prog 11 #[v0, v1] w (RetB w true) := by
  have I0 := h0
  obtain ⟨pa0, pb0, pc0, pd0, pe0, pf0, pg0, ph0, rfl⟩ := h0.form
  have mz0 := mz_le a0
  have I1 := h1
  obtain ⟨pa1, pb1, rfl⟩ := h1.form
  go_enter Try.func11, Try.ntmps11
  refine gc_enter (N := 117) rfl (look_cons (k := 0) rfl (look_cons (k := 1) rfl (look_nil _))) ?_
  refine gc_seq fun K1 hK1 => ?_
  refine gc_region ?_
  refine g_op (.free rfl) fun K3 hK3 => ?_
  refine go_box rfl rfl rfl rfl rfl ?_
  intro B2
  refine hK3 _ _ ?_
  refine g_v (.free rfl) rfl rfl (qt_assign rfl rfl) ?_
  refine g_nil ?_
  refine gk_then (hK1 _ _ ?_)
  refine gc_seq fun K4 hK4 => ?_
  refine gc_seq fun K5 hK5 => ?_
  refine gc_region ?_
  refine g_v (.free rfl) rfl rfl (qt_move rfl rfl) ?_
  refine g_v (.free rfl) rfl rfl (qt_len rfl rfl ulE1 (fun w M => ⟨_, _, rfl⟩)) ?_
  refine g_v (.free rfl) rfl rfl (qt_gtr rfl rfl rfl) ?_
  refine g_nil ?_
  refine gk_then (hK5 _ _ ?_)
  refine gc_cond rfl (fun hc0 => ?_) (fun hc0 => ?_)
  · try simp only [decide_eq_true_eq, decide_eq_false_iff_not, Bool.not_eq_true', Bool.not_eq_false', Bool.not_eq_eq_eq_not, Bool.not_true, Bool.not_false, ne_eq, Decidable.not_not, Classical.not_not] at hc0
    refine gc_seq fun K6 hK6 => ?_
    refine gc_region ?_
    refine g_v (.free rfl) rfl rfl (qt_assign rfl rfl) ?_
    refine g_nil ?_
    refine gk_then (hK6 _ _ ?_)
    refine gc_ret ?_
    refine gk_then_ret ?_
    refine ret_1 rfl rfl  (fun w M => ?_)
    exact ⟨rfl, M.1⟩
  · try simp only [decide_eq_true_eq, decide_eq_false_iff_not, Bool.not_eq_true', Bool.not_eq_false', Bool.not_eq_eq_eq_not, Bool.not_true, Bool.not_false, ne_eq, Decidable.not_not, Classical.not_not] at hc0
    first | (exfalso; omega) | exact absurd rfl hc0 | (simp at hc0)

set_option maxHeartbeats 1000000 in
set_option maxRecDepth 100000 in
theorem big1 (w : World) (v0 : Value) (a0 : Cat) (v1 : Value) (a1 : List Int) (r0 : Cat) (r1 : Int) (h0 : InC w v0 a0) (h1 : In w v1 a1) (l1 : a1.length ≤ 1048576) (nl : ¬ (szM a0 ≤ 1048576)) :
    Calls Try.prog 11 #[v0, v1] w (RetB w true) := by
  have I0 := h0
  obtain ⟨pa0, pb0, pc0, pd0, pe0, pf0, pg0, ph0, rfl⟩ := h0.form
  have mz0 := mz_le a0
  have I1 := h1
  obtain ⟨pa1, pb1, rfl⟩ := h1.form
  go_enter Try.func11, Try.ntmps11
  refine gc_enter (N := 117) rfl (look_cons (k := 0) rfl (look_cons (k := 1) rfl (look_nil _))) ?_
  refine gc_seq fun K1 hK1 => ?_
  refine gc_region ?_
  refine g_op (.free rfl) fun K3 hK3 => ?_
  refine go_box rfl rfl rfl rfl rfl ?_
  intro B2
  refine hK3 _ _ ?_
  refine g_v (.free rfl) rfl rfl (qt_assign rfl rfl) ?_
  refine g_nil ?_
  refine gk_then (hK1 _ _ ?_)
  refine gc_seq fun K4 hK4 => ?_
  refine gc_seq fun K5 hK5 => ?_
  refine gc_region ?_
  refine g_v (.free rfl) rfl rfl (qt_move rfl rfl) ?_
  refine g_v (.free rfl) rfl rfl (qt_len rfl rfl ulE1 (fun w M => ⟨_, _, rfl⟩)) ?_
  refine g_v (.free rfl) rfl rfl (qt_gtr rfl rfl rfl) ?_
  refine g_nil ?_
  refine gk_then (hK5 _ _ ?_)
  refine gc_cond rfl (fun hc0 => ?_) (fun hc0 => ?_)
  · try simp only [decide_eq_true_eq, decide_eq_false_iff_not, Bool.not_eq_true', Bool.not_eq_false', Bool.not_eq_eq_eq_not, Bool.not_true, Bool.not_false, ne_eq, Decidable.not_not, Classical.not_not] at hc0
    first | (exfalso; omega) | exact absurd rfl hc0 | (simp at hc0)
  · try simp only [decide_eq_true_eq, decide_eq_false_iff_not, Bool.not_eq_true', Bool.not_eq_false', Bool.not_eq_eq_eq_not, Bool.not_true, Bool.not_false, ne_eq, Decidable.not_not, Classical.not_not] at hc0
    refine gc_skip ?_
    refine gk_then (hK4 _ _ ?_)
    refine gc_seq fun K6 hK6 => ?_
    refine gc_region ?_
    refine g_v (.free rfl) rfl rfl (qt_assign rfl rfl) ?_
    refine g_nil ?_
    refine gk_then (hK6 _ _ ?_)
    refine gc_seq fun K7 hK7 => ?_
    refine gc_region ?_
    refine g_v (.free rfl) rfl rfl (qt_loadS (n := 0) rfl rfl Try.underlying42 rfl (by kernel_rfl) rfl) ?_
    refine g_v (.free rfl) rfl rfl (qt_move rfl rfl) ?_
    refine g_q (.free rfl) rfl rfl (qt_call rfl Try.func39 rfl (by decide) rfl (fun w M => szC_gt w _ _ _ (inC_below M.1 I0) (by first | assumption | omega) (by first | assumption | omega) (by first | assumption | omega))) ?_
    refine g_v (.free rfl) rfl rfl (qt_assign rfl rfl) ?_
    refine g_nil ?_
    refine gk_then (hK7 _ _ ?_)
    refine gc_seq fun K8 hK8 => ?_
    refine gc_seq fun K9 hK9 => ?_
    refine gc_region ?_
    refine g_v (.free rfl) rfl rfl (qt_move rfl rfl) ?_
    refine g_v (.free rfl) rfl rfl (qt_lss_t rfl rfl rfl (by decide)) ?_
    refine g_nil ?_
    refine gk_then (hK9 _ _ ?_)
    refine gc_cond_t rfl ?_
    refine gc_seq fun K10 hK10 => ?_
    refine gc_region ?_
    refine g_v (.free rfl) rfl rfl (qt_assign rfl rfl) ?_
    refine g_nil ?_
    refine gk_then (hK10 _ _ ?_)
    refine gc_ret ?_
    refine gk_then_ret ?_
    refine ret_1 rfl rfl  (fun w M => ?_)
    exact ⟨rfl, M.1⟩

theorem walk (w : World) (v0 : Value) (a0 : Cat) (v1 : Value) (a1 : List Int) (r0 : Cat) (r1 : Int) (h0 : InC w v0 a0) (h1 : In w v1 a1) (hr0 : mzC r0 ≤ 1152921504606846) (hspec : (∀ (w : World) (v0 : Value) (v1 : Value), RdC w v0 a0 → Rd w v1 a1 → Calls Try.prog 40 #[v0, v1] w (RetCI w r0 r1))) (himpl : (∀ (w : World) (v0 : Value) (v1 : Value), RdC w v0 a0 → Rd w v1 a1 → Calls Try.prog 42 #[v0, v1] w (RetCI w r0 r1))) :
    Calls Try.prog 11 #[v0, v1] w (RetB w true) := by
  by_cases l1 : a1.length ≤ 1048576
  rotate_left
  · exact big0 w v0 a0 v1 a1 r0 r1 h0 h1 l1
  by_cases l0 : szM a0 ≤ 1048576
  rotate_left
  · exact big1 w v0 a0 v1 a1 r0 r1 h0 h1 l1 l0
  exact main w v0 a0 v1 a1 r0 r1 h0 l0 h1 l1 hr0 hspec himpl

set_option maxRecDepth 100000 in
theorem lifted (os : Os) (started : os.Started) (H : Type) (enc : TypeId × Value → H) :
    ReturnsInHanded {} Try.checked os 11 .any (Rows.fnExactFullSubcategorySpec.pre6 enc Try.prog Try.f11 Rows.fnExactFullSubcategoryRow.domain false) (Rows.fnExactFullSubcategorySpec.post enc Try.prog Try.f11 false true false false) := by
  refine returnsInHanded_of_change (C := Try.checked) own started (by kernel_rfl) Try.func11
    (ChangeSpec.witness6 (enc := enc) (C := Try.checked) false ⟨#[], #[.agg #[.int .i64 0, .slice none 0 0, .slice none 0 0, .slice none 0 0, .slice none 0 0], .slice none 0 0], []⟩ 8 (by kernel_rfl) (by kernel_rfl) (by kernel_rfl) (by kernel_rfl)) ?_
  intro W base args ds gs before hval0 hW _ _
  have hval : ∀ (j : Nat) t v, Try.f11.params[j]? = some t → args[j]? = some v → Value.okWide Try.prog W .any base t v := hval0
  have hW' := hW
  obtain ⟨p, q, hA0, hV, rfl, _, _⟩ := hW
  have hA : DataW.TrodAll enc Try.prog W 0 (fun _ => true) true Try.f11.params.toList args.toList ds p := hA0
  rw [Try.params11] at hA hval
  obtain ⟨v0, vs0, d0, ds0, p0, q0, hargs, rfl, rfl, t0, s0⟩ := trodAll_cons hA
  obtain ⟨v1, vs1, d1, ds1, p1, q1, rfl, rfl, rfl, t1, s1⟩ := trodAll_cons s0
  obtain ⟨rfl, rfl, rfl⟩ := trodAll_nil s1
  obtain rfl : args = #[v0, v1] := by cases args; simp_all
  obtain ⟨rfl, rfl⟩ := trodVars_none hV
  obtain ⟨a0, h0⟩ := open_inC (hval 0 42 v0 rfl rfl) t0
  obtain ⟨a1, h1⟩ := open_in (hval 1 22 v1 rfl rfl) t1
  clear hA0 hval0
  refine (walk W v0 a0 v1 a1 (fFullSubcategory a0 a1).1 (fFullSubcategory a0 a1).2 h0 h1 (bound_FullSubcategory a0 a1) (fun u v0 v1 k0 k1 => spec_FullSubcategory u v0 a0 v1 a1 k0 k1) (fun u v0 v1 k0 k1 => impl_FullSubcategory u v0 a0 v1 a1 k0 k1)).mono fun e W' ⟨he, hg⟩ => ?_
  subst he
  exact ⟨_, rfl, law_post rfl (by kernel_rfl) hW' (by kernel_rfl) rfl rfl rfl hg⟩

theorem over : Rows.fnExactFullSubcategoryRow.holds Try.pinned (OpenSpec.ofChange Rows.fnExactFullSubcategorySpec) :=
  OpenClaim.holds_of_wide 11 Try.f11 rfl rfl rfl rfl rfl rfl rfl ⟨rfl, rfl, rfl, rfl, rfl⟩ rfl rfl rfl rfl rfl (by kernel_rfl) Try.func11 (by kernel_rfl)
    (of_decide_eq_true (by kernel_rfl)) (by unfold Func.isWrapper; first | (rw [if_pos (by decide +kernel)]; kernel_rfl) | (rw [if_neg (by decide +kernel)]; exact ⟨rfl, rfl⟩))
    (fun os started H enc _ => lifted os started H enc)

theorem proved : Rows.FnExactFullSubcategorySaid := over
end Go.Proofs.Ytbfenibkbmkcaaa.exactFullSubcategory
