
/- The exact law of JoinCategory: its model and its program do the same, in memory of their own. Written by wip/tools/genlaw.py. -/
import Derived.Test.YtdgffiilalabeabBase
import Derived.Test.YtdgffiilalabeabLawC
import Derived.Test.YtdgffiilalabeabRul4
import Derived.Test.YtdgffiilalabeabJoinI
set_option linter.unusedSimpArgs false
set_option linter.unusedVariables false
set_option linter.unusedSectionVars false
namespace Go.Proofs.Ytdgffiilalabeab.exactJoinCategory
open Go.ChangeShapes Go.WideShapes Go.ChangeAt Go.RowKit
set_option maxHeartbeats 4000000 in
set_option maxRecDepth 100000 in
theorem main (w : World) (v0 : Value) (a0 : Cat) (v1 : Value) (a1 : Cat) (r0 : Cat) (r1 : Int) (h0 : InC w v0 a0) (l0 : szM a0 ≤ 1048576) (h1 : InC w v1 a1) (l1 : szM a0 + szM a1 ≤ 1048576) (hr0 : mzC r0 ≤ 1152921504606846) (hspec : (∀ (w : World) (v0 : Value) (v1 : Value), RdC w v0 a0 → RdC w v1 a1 → Calls Try.prog 35 #[v0, v1] w (RetCI w r0 r1))) (himpl : (∀ (w : World) (v0 : Value) (v1 : Value), RdC w v0 a0 → RdC w v1 a1 → Calls Try.prog 36 #[v0, v1] w (RetCI w r0 r1))) :
    Calls Try.prog 8 #[v0, v1] w (RetB w true) := by
  have R0 := h0.rd (by omega)
  have I0 := h0
  obtain ⟨pa0, pb0, pc0, pd0, pe0, pf0, pg0, ph0, rfl⟩ := h0.form
  have mz0 := mz_le a0
  have R1 := h1.rd (by omega)
  have I1 := h1
  obtain ⟨pa1, pb1, pc1, pd1, pe1, pf1, pg1, ph1, rfl⟩ := h1.form
  have mz1 := mz_le a1
  go_enter Try.func8, Try.ntmps8
  refine gc_enter (N := 119) rfl (look_cons (k := 0) rfl (look_cons (k := 1) rfl (look_nil _))) ?_
  refine gc_seq fun K1 hK1 => ?_
  refine gc_region ?_
  refine g_op (.free rfl) fun K3 hK3 => ?_
  refine go_box rfl rfl rfl rfl rfl ?_
  intro B2
  refine hK3 _ _ ?_
  refine g_op (.free rfl) fun K5 hK5 => ?_
  refine go_box rfl rfl rfl rfl rfl ?_
  intro B4
  refine hK5 _ _ ?_
  refine g_v (.free rfl) rfl rfl (qt_assign rfl rfl) ?_
  refine g_nil ?_
  refine gk_then (hK1 _ _ ?_)
  refine gc_seq fun K6 hK6 => ?_
  refine gc_region ?_
  refine g_v (.free rfl) rfl rfl (qt_assign rfl rfl) ?_
  refine g_nil ?_
  refine gk_then (hK6 _ _ ?_)
  refine gc_seq fun K7 hK7 => ?_
  refine gc_region ?_
  refine g_v (.free rfl) rfl rfl (qt_loadS (n := 0) rfl rfl Try.underlying39 rfl (by kernel_rfl) rfl) ?_
  refine g_v (.free rfl) rfl rfl (qt_move rfl rfl) ?_
  refine g_q (.free rfl) rfl rfl (qt_call rfl Try.func27 rfl (by decide) rfl (fun w M => szC_le w _ _ _ (inC_below M.1 I0) (by first | assumption | omega) (by first | assumption | omega) (by first | assumption | omega))) ?_
  refine g_v (.free rfl) rfl rfl (qt_assign rfl rfl) ?_
  refine g_nil ?_
  refine gk_then (hK7 _ _ ?_)
  refine gc_seq fun K8 hK8 => ?_
  refine gc_seq fun K9 hK9 => ?_
  refine gc_region ?_
  refine g_v (.free rfl) rfl rfl (qt_move rfl rfl) ?_
  refine g_v (.free rfl) rfl rfl (qt_lss rfl rfl rfl) ?_
  refine g_nil ?_
  refine gk_then (hK9 _ _ ?_)
  refine gc_cond rfl (fun hc0 => ?_) (fun hc0 => ?_)
  · try simp only [decide_eq_true_eq, decide_eq_false_iff_not, Bool.not_eq_true', Bool.not_eq_false', Bool.not_eq_eq_eq_not, Bool.not_true, Bool.not_false, ne_eq, Decidable.not_not, Classical.not_not] at hc0
    first | (exfalso; omega) | exact absurd rfl hc0 | (simp at hc0)
  · try simp only [decide_eq_true_eq, decide_eq_false_iff_not, Bool.not_eq_true', Bool.not_eq_false', Bool.not_eq_eq_eq_not, Bool.not_true, Bool.not_false, ne_eq, Decidable.not_not, Classical.not_not] at hc0
    refine gc_skip ?_
    refine gk_then (hK8 _ _ ?_)
    refine gc_seq fun K10 hK10 => ?_
    refine gc_region ?_
    refine g_v (.free rfl) rfl rfl (qt_loadS (n := 1) rfl rfl Try.underlying39 rfl (by kernel_rfl) rfl) ?_
    refine g_v (.free rfl) rfl rfl (qt_move rfl rfl) ?_
    refine g_q (.free rfl) rfl rfl (qt_call rfl Try.func27 rfl (by decide) rfl (fun w M => szC_le w _ _ _ (inC_below M.1 I1) (by first | assumption | omega) (by first | assumption | omega) (by first | assumption | omega))) ?_
    refine g_v (.free rfl) rfl rfl (qt_assign rfl rfl) ?_
    refine g_nil ?_
    refine gk_then (hK10 _ _ ?_)
    refine gc_seq fun K11 hK11 => ?_
    refine gc_seq fun K12 hK12 => ?_
    refine gc_region ?_
    refine g_v (.free rfl) rfl rfl (qt_move rfl rfl) ?_
    refine g_v (.free rfl) rfl rfl (qt_lss rfl rfl rfl) ?_
    refine g_nil ?_
    refine gk_then (hK12 _ _ ?_)
    refine gc_cond rfl (fun hc1 => ?_) (fun hc1 => ?_)
    · try simp only [decide_eq_true_eq, decide_eq_false_iff_not, Bool.not_eq_true', Bool.not_eq_false', Bool.not_eq_eq_eq_not, Bool.not_true, Bool.not_false, ne_eq, Decidable.not_not, Classical.not_not] at hc1
      first | (exfalso; omega) | exact absurd rfl hc1 | (simp at hc1)
    · try simp only [decide_eq_true_eq, decide_eq_false_iff_not, Bool.not_eq_true', Bool.not_eq_false', Bool.not_eq_eq_eq_not, Bool.not_true, Bool.not_false, ne_eq, Decidable.not_not, Classical.not_not] at hc1
      refine gc_skip ?_
      refine gk_then (hK11 _ _ ?_)
      refine gc_seq fun K13 hK13 => ?_
      try simp only [List.nil_append, List.cons_append, List.append_assoc, List.set_cons_succ, List.set_cons_zero]
      refine ga_start _ (fun w M => M) ?_
      refine ga_v 0 rfl (by kernel_rfl) (by kernel_rfl) (by kernel_rfl) (.free rfl) rfl rfl (qt_loadS (n := 0) rfl rfl Try.underlying39 rfl (by kernel_rfl) rfl) (fun _ _ _ h => h) ?_
      refine ga_v 2 rfl (by kernel_rfl) (by kernel_rfl) (by kernel_rfl) (.free rfl) rfl rfl (qt_loadS (n := 1) rfl rfl Try.underlying39 rfl (by kernel_rfl) rfl) (fun _ _ _ h => h) ?_
      refine ga_two 1 8 (by kernel_rfl) rfl rfl (.free rfl) (.free rfl) (fun K14 hK14 => ?_) (fun K14 hK14 => ?_)
      · refine go_callC1 rfl rfl rfl Try.func29 rfl (by decide) rfl (fun w M => toC_any w _ _ (mem_rdC M R0)) ?_
        intro ca15 cb15 cc15 cd15 ce15 cf15 cg15 ch15
        refine hK14 _ _ (fun w M => (mem_take 2 M :)) ?_
        refine ga_two 3 8 (by kernel_rfl) rfl rfl (.free rfl) (.free rfl) (fun K17 hK17 => ?_) (fun K17 hK17 => ?_)
        · refine go_callC1 rfl rfl rfl Try.func29 rfl (by decide) rfl (fun w M => toC_any w _ _ (mem_rdC M R1)) ?_
          intro ca18 cb18 cc18 cd18 ce18 cf18 cg18 ch18
          refine hK17 _ _ (fun w M => (mem_take 2 M :)) ?_
          refine ga_two 4 8 (by kernel_rfl) rfl rfl (.free rfl) (.free rfl) (fun K20 hK20 => ?_) (fun K20 hK20 => ?_)
          · refine go_callCI1 rfl rfl rfl Try.func35 rfl (by decide) rfl (fun w M => hspec w _ _ ((mem_ownC (n := 2) M rfl).rd) ((mem_ownC (n := 3) M rfl).rd)) ?_
            intro ca21 cb21 cc21 cd21 ce21 cf21 cg21 ch21
            refine hK20 _ _ (fun w M => (mem_take 2 M :)) ?_
            refine ga_v 5 rfl (by kernel_rfl) (by kernel_rfl) (by kernel_rfl) (.free rfl) rfl rfl (qt_move rfl rfl) (fun _ _ _ h => h) ?_
            refine ga_v 6 rfl (by kernel_rfl) (by kernel_rfl) (by kernel_rfl) (.free rfl) rfl rfl (qt_extract rfl rfl rfl) (fun _ _ _ h => h) ?_
            refine ga_v 7 rfl (by kernel_rfl) (by kernel_rfl) (by kernel_rfl) (.free rfl) rfl rfl (qt_extract rfl rfl rfl) (fun _ _ _ h => h) ?_
            refine ga_op 8 (by kernel_rfl) rfl (.free rfl) fun K24 hK24 => ?_
            refine go_alloc (z := (.agg #[.int .i64 0, .slice none 0 0, .slice none 0 0, .slice none 0 0, .slice none 0 0])) (cs := [.int .i64 0, .slice none 0 0, .slice none 0 0, .slice none 0 0, .slice none 0 0]) rfl rfl rfl (fun w => by kernel_rfl) rfl ?_
            intro B23
            refine hK24 _ _ (fun w M => (mem_take 2 M :)) ?_
            refine ga_op 9 (by kernel_rfl) rfl (.free rfl) fun K25 hK25 => ?_
            refine go_storeS (n := 5) rfl rfl rfl rfl (by kernel_rfl) rfl rfl rfl ?_
            refine hK25 _ _ (fun w M => (mem_take 2 M :)) ?_
            refine ga_v 10 rfl (by kernel_rfl) (by kernel_rfl) (by kernel_rfl) (.free rfl) rfl rfl (qt_assign rfl rfl) (fun _ _ _ h => h) ?_
            refine ga_done (by kernel_rfl) ?_
            refine gk_then (hK13 _ _ ?_)
            refine gc_seq fun K26 hK26 => ?_
            refine gc_region ?_
            refine g_v (.free rfl) rfl rfl (qt_loadS (n := 0) rfl rfl Try.underlying39 rfl (by kernel_rfl) rfl) ?_
            refine g_op (.free rfl) fun K28 hK28 => ?_
            refine go_callC1 rfl rfl rfl Try.func29 rfl (by decide) rfl (fun w M => toC_any w _ _ (mem_rdC M R0)) ?_
            intro ca27 cb27 cc27 cd27 ce27 cf27 cg27 ch27
            refine hK28 _ _ ?_
            refine g_op (.free rfl) fun K30 hK30 => ?_
            refine go_alloc (z := (.agg #[.int .i64 0, .slice none 0 0, .slice none 0 0, .slice none 0 0, .slice none 0 0])) (cs := [.int .i64 0, .slice none 0 0, .slice none 0 0, .slice none 0 0, .slice none 0 0]) rfl rfl rfl (fun w => by kernel_rfl) rfl ?_
            intro B29
            refine hK30 _ _ ?_
            refine g_op (.free rfl) fun K31 hK31 => ?_
            refine go_storeS (n := 7) rfl rfl rfl rfl (by kernel_rfl) rfl rfl rfl ?_
            refine hK31 _ _ ?_
            refine g_nil ?_
            refine gk_then (hK26 _ _ ?_)
            refine gc_seq fun K32 hK32 => ?_
            refine gc_region ?_
            refine g_v (.free rfl) rfl rfl (qt_loadS (n := 1) rfl rfl Try.underlying39 rfl (by kernel_rfl) rfl) ?_
            refine g_op (.free rfl) fun K34 hK34 => ?_
            refine go_callC1 rfl rfl rfl Try.func29 rfl (by decide) rfl (fun w M => toC_any w _ _ (mem_rdC M R1)) ?_
            intro ca33 cb33 cc33 cd33 ce33 cf33 cg33 ch33
            refine hK34 _ _ ?_
            refine g_op (.free rfl) fun K36 hK36 => ?_
            refine go_alloc (z := (.agg #[.int .i64 0, .slice none 0 0, .slice none 0 0, .slice none 0 0, .slice none 0 0])) (cs := [.int .i64 0, .slice none 0 0, .slice none 0 0, .slice none 0 0, .slice none 0 0]) rfl rfl rfl (fun w => by kernel_rfl) rfl ?_
            intro B35
            refine hK36 _ _ ?_
            refine g_op (.free rfl) fun K37 hK37 => ?_
            refine go_storeS (n := 9) rfl rfl rfl rfl (by kernel_rfl) rfl rfl rfl ?_
            refine hK37 _ _ ?_
            refine g_nil ?_
            refine gk_then (hK32 _ _ ?_)
            refine gc_seq fun K38 hK38 => ?_
            refine gc_region ?_
            refine g_v (.free rfl) rfl rfl (qt_loadS (n := 7) rfl rfl Try.underlying26 rfl (by kernel_rfl) rfl) ?_
            refine g_v (.free rfl) rfl rfl (qt_loadS (n := 9) rfl rfl Try.underlying26 rfl (by kernel_rfl) rfl) ?_
            refine g_op (.free rfl) fun K40 hK40 => ?_
            refine go_callCI1 rfl rfl rfl Try.func36 rfl (by decide) rfl (fun w M => himpl w _ _ ((mem_ownC (n := 6) M rfl).rd) ((mem_ownC (n := 8) M rfl).rd)) ?_
            intro ca39 cb39 cc39 cd39 ce39 cf39 cg39 ch39
            refine hK40 _ _ ?_
            refine g_v (.free rfl) rfl rfl (qt_move rfl rfl) ?_
            refine g_v (.free rfl) rfl rfl (qt_extract rfl rfl rfl) ?_
            refine g_v (.free rfl) rfl rfl (qt_extract rfl rfl rfl) ?_
            refine g_op (.free rfl) fun K42 hK42 => ?_
            refine go_alloc (z := (.agg #[.int .i64 0, .slice none 0 0, .slice none 0 0, .slice none 0 0, .slice none 0 0])) (cs := [.int .i64 0, .slice none 0 0, .slice none 0 0, .slice none 0 0, .slice none 0 0]) rfl rfl rfl (fun w => by kernel_rfl) rfl ?_
            intro B41
            refine hK42 _ _ ?_
            refine g_op (.free rfl) fun K43 hK43 => ?_
            refine go_storeS (n := 11) rfl rfl rfl rfl (by kernel_rfl) rfl rfl rfl ?_
            refine hK43 _ _ ?_
            refine g_v (.free rfl) rfl rfl (qt_assign rfl rfl) ?_
            refine g_nil ?_
            refine gk_then (hK38 _ _ ?_)
            refine gc_seq fun K44 hK44 => ?_
            refine gc_seq fun K45 hK45 => ?_
            refine gc_region ?_
            refine g_v (.free rfl) rfl rfl (qt_loadS (n := 11) rfl rfl Try.underlying26 rfl (by kernel_rfl) rfl) ?_
            refine g_v (.free rfl) rfl rfl (qt_loadS (n := 5) rfl rfl Try.underlying26 rfl (by kernel_rfl) rfl) ?_
            refine g_q (.free rfl) rfl rfl (qt_call rfl Try.func17 rfl (by decide) rfl (fun w M => eqC_refl_any w _ _ _ ((mem_ownC (n := 10) M rfl).rd) ((mem_ownC (n := 4) M rfl).rd))) ?_
            refine g_v (.free rfl) rfl rfl (qt_not rfl rfl) ?_
            refine g_v (.free rfl) rfl rfl (qt_move rfl rfl) ?_
            refine g_v (.held _ _ _ rfl rfl rfl) rfl rfl (qt_move rfl rfl) ?_
            refine g_v (.held _ _ _ rfl rfl rfl) rfl rfl (qt_move rfl rfl) ?_
            refine g_v (.held _ _ _ rfl rfl rfl) rfl rfl (qt_neq_f rfl rfl rfl (fun h => h rfl)) ?_
            refine g_v (.free rfl) rfl rfl (qt_pick_f rfl rfl rfl) ?_
            refine g_nil ?_
            refine gk_then (hK45 _ _ ?_)
            refine gc_cond_f rfl ?_
            refine gc_skip ?_
            refine gk_then (hK44 _ _ ?_)
            refine gc_seq fun K46 hK46 => ?_
            refine gc_seq fun K47 hK47 => ?_
            try simp only [List.nil_append, List.cons_append, List.append_assoc, List.set_cons_succ, List.set_cons_zero]
            refine ga_start _ (fun w M => M) ?_
            refine ga_v 0 rfl (by kernel_rfl) (by kernel_rfl) (by kernel_rfl) (.free rfl) rfl rfl (qt_loadS (n := 7) rfl rfl Try.underlying26 rfl (by kernel_rfl) rfl) (fun _ _ _ h => h) ?_
            refine ga_v 1 rfl (by kernel_rfl) (by kernel_rfl) (by kernel_rfl) (.free rfl) rfl rfl (qt_loadS (n := 0) rfl rfl Try.underlying39 rfl (by kernel_rfl) rfl) (fun _ _ _ h => h) ?_
            refine ga_op 2 (by kernel_rfl) rfl (.free rfl) fun K49 hK49 => ?_
            refine go_callC1 rfl rfl rfl Try.func29 rfl (by decide) rfl (fun w M => toC_any w _ _ (mem_rdC M R0)) ?_
            intro ca48 cb48 cc48 cd48 ce48 cf48 cg48 ch48
            refine hK49 _ _ (fun w M => (mem_take 12 M :)) ?_
            refine ga_op 3 (by kernel_rfl) rfl (.free rfl) fun K50 hK50 => ?_
            refine go_q rfl rfl (qt_call rfl Try.func17 rfl (by decide) rfl (fun w M => eqC_refl_any w _ _ _ ((mem_ownC (n := 6) M rfl).rd) ((mem_ownC (n := 12) M rfl).rd))) ?_
            refine hK50 _ _ (fun w M => (mem_take 12 M :)) ?_
            refine ga_v 4 rfl (by kernel_rfl) (by kernel_rfl) (by kernel_rfl) (.free rfl) rfl rfl (qt_not rfl rfl) (fun _ _ _ h => h) ?_
            refine ga_done (by kernel_rfl) ?_
            refine gk_then (hK47 _ _ ?_)
            refine gc_cond_f rfl ?_
            refine gc_skip ?_
            refine gk_then (hK46 _ _ ?_)
            refine gc_seq fun K51 hK51 => ?_
            refine gc_seq fun K52 hK52 => ?_
            try simp only [List.nil_append, List.cons_append, List.append_assoc, List.set_cons_succ, List.set_cons_zero]
            refine ga_start _ (fun w M => M) ?_
            refine ga_v 0 rfl (by kernel_rfl) (by kernel_rfl) (by kernel_rfl) (.free rfl) rfl rfl (qt_loadS (n := 9) rfl rfl Try.underlying26 rfl (by kernel_rfl) rfl) (fun _ _ _ h => h) ?_
            refine ga_v 1 rfl (by kernel_rfl) (by kernel_rfl) (by kernel_rfl) (.free rfl) rfl rfl (qt_loadS (n := 1) rfl rfl Try.underlying39 rfl (by kernel_rfl) rfl) (fun _ _ _ h => h) ?_
            refine ga_op 2 (by kernel_rfl) rfl (.free rfl) fun K54 hK54 => ?_
            refine go_callC1 rfl rfl rfl Try.func29 rfl (by decide) rfl (fun w M => toC_any w _ _ (mem_rdC M R1)) ?_
            intro ca53 cb53 cc53 cd53 ce53 cf53 cg53 ch53
            refine hK54 _ _ (fun w M => (mem_take 13 M :)) ?_
            refine ga_op 3 (by kernel_rfl) rfl (.free rfl) fun K55 hK55 => ?_
            refine go_q rfl rfl (qt_call rfl Try.func17 rfl (by decide) rfl (fun w M => eqC_refl_any w _ _ _ ((mem_ownC (n := 8) M rfl).rd) ((mem_ownC (n := 13) M rfl).rd))) ?_
            refine hK55 _ _ (fun w M => (mem_take 13 M :)) ?_
            refine ga_v 4 rfl (by kernel_rfl) (by kernel_rfl) (by kernel_rfl) (.free rfl) rfl rfl (qt_not rfl rfl) (fun _ _ _ h => h) ?_
            refine ga_done (by kernel_rfl) ?_
            refine gk_then (hK52 _ _ ?_)
            refine gc_cond_f rfl ?_
            refine gc_skip ?_
            refine gk_then (hK51 _ _ ?_)
            refine gc_seq fun K56 hK56 => ?_
            refine gc_region ?_
            refine g_v (.free rfl) rfl rfl (qt_assign rfl rfl) ?_
            refine g_nil ?_
            refine gk_then (hK56 _ _ ?_)
            refine gc_seq fun K57 hK57 => ?_
            refine gc_region ?_
            refine g_v (.free rfl) rfl rfl (qt_loadS (n := 7) rfl rfl Try.underlying26 rfl (by kernel_rfl) rfl) ?_
            refine g_v (.free rfl) rfl rfl (qt_move rfl rfl) ?_
            refine g_op (.free rfl) fun K58 hK58 => ?_
            refine go_mark (ownCI _ (mkC _ _)) (n := 6) rfl rfl rfl Try.func20 rfl (by decide) rfl rfl (fun w S hS => markC_any w S _ _ _ hS (by omega) (by omega)) ?_
            refine hK58 _ _ ?_
            refine g_v (.free rfl) rfl rfl (qt_assign rfl rfl) ?_
            refine g_nil ?_
            refine gk_then (hK57 _ _ ?_)
            refine gc_seq fun K59 hK59 => ?_
            refine gc_region ?_
            refine g_v (.free rfl) rfl rfl (qt_loadS (n := 9) rfl rfl Try.underlying26 rfl (by kernel_rfl) rfl) ?_
            refine g_v (.free rfl) rfl rfl (qt_move rfl rfl) ?_
            refine g_op (.free rfl) fun K60 hK60 => ?_
            refine go_mark (ownCI _ (mkC _ _)) (n := 8) rfl rfl rfl Try.func20 rfl (by decide) rfl rfl (fun w S hS => markC_any w S _ _ _ hS (by omega) (by omega)) ?_
            refine hK60 _ _ ?_
            refine g_v (.free rfl) rfl rfl (qt_assign rfl rfl) ?_
            refine g_nil ?_
            refine gk_then (hK59 _ _ ?_)
            refine gc_seq fun K61 hK61 => ?_
            refine gc_seq fun K62 hK62 => ?_
            refine gc_region ?_
            refine g_v (.free rfl) rfl rfl (qt_move rfl rfl) ?_
            refine g_v (.free rfl) rfl rfl (qt_lss rfl rfl rfl) ?_
            refine g_splitv (.free rfl) rfl rfl (qt_move rfl rfl) (fun hs21_2 => ?_) (fun hs21_2 => ?_)
            · try simp only [decide_eq_true_eq, decide_eq_false_iff_not, Bool.not_eq_true', Bool.not_eq_false', Bool.not_eq_eq_eq_not, Bool.not_true, Bool.not_false, ne_eq, Decidable.not_not, Classical.not_not] at hs21_2
              first | (exfalso; omega) | exact absurd rfl hs21_2 | (simp at hs21_2)
            · try simp only [decide_eq_true_eq, decide_eq_false_iff_not, Bool.not_eq_true', Bool.not_eq_false', Bool.not_eq_eq_eq_not, Bool.not_true, Bool.not_false, ne_eq, Decidable.not_not, Classical.not_not] at hs21_2
              refine g_v (.held _ _ _ rfl rfl rfl) rfl rfl (qt_loadS (n := 11) rfl rfl Try.underlying26 rfl (by kernel_rfl) rfl) ?_
              refine g_v (.held _ _ _ rfl rfl rfl) rfl rfl (qt_loadS (n := 5) rfl rfl Try.underlying26 rfl (by kernel_rfl) rfl) ?_
              refine g_q (.held _ _ _ rfl rfl rfl) rfl rfl (qt_call rfl Try.func17 rfl (by decide) rfl (fun w M => eqC_refl_any w _ _ _ ((mem_ownC (n := 10) M rfl).rd) ((mem_ownC (n := 4) M rfl).rd))) ?_
              refine g_v (.held _ _ _ rfl rfl rfl) rfl rfl (qt_not rfl rfl) ?_
              refine g_v (.free rfl) rfl rfl (qt_pick_f rfl rfl rfl) ?_
              refine g_v (.free rfl) rfl rfl (qt_move rfl rfl) ?_
              refine g_v (.held _ _ _ rfl rfl rfl) rfl rfl (qt_move rfl rfl) ?_
              refine g_v (.held _ _ _ rfl rfl rfl) rfl rfl (qt_move rfl rfl) ?_
              refine g_v (.held _ _ _ rfl rfl rfl) rfl rfl (qt_neq_f rfl rfl rfl (fun h => h rfl)) ?_
              refine g_v (.free rfl) rfl rfl (qt_pick_f rfl rfl rfl) ?_
              refine g_nil ?_
              refine gk_then (hK62 _ _ ?_)
              refine gc_cond_f rfl ?_
              refine gc_skip ?_
              refine gk_then (hK61 _ _ ?_)
              refine gc_seq fun K63 hK63 => ?_
              refine gc_region ?_
              refine g_v (.free rfl) rfl rfl (qt_assign rfl rfl) ?_
              refine g_nil ?_
              refine gk_then (hK63 _ _ ?_)
              refine gc_seq fun K64 hK64 => ?_
              refine gc_region ?_
              refine g_v (.free rfl) rfl rfl (qt_loadS (n := 11) rfl rfl Try.underlying26 rfl (by kernel_rfl) rfl) ?_
              refine g_v (.free rfl) rfl rfl (qt_move rfl rfl) ?_
              refine g_op (.free rfl) fun K65 hK65 => ?_
              refine go_mark (ownCI _ (mkC _ _)) (n := 10) rfl rfl rfl Try.func20 rfl (by decide) rfl rfl (fun w S hS => markC_any w S _ _ _ hS (by omega) (by omega)) ?_
              refine hK65 _ _ ?_
              refine g_v (.free rfl) rfl rfl (qt_assign rfl rfl) ?_
              refine g_nil ?_
              refine gk_then (hK64 _ _ ?_)
              refine gc_seq fun K66 hK66 => ?_
              refine gc_region ?_
              refine g_v (.free rfl) rfl rfl (qt_assign rfl rfl) ?_
              refine g_nil ?_
              refine gk_then (hK66 _ _ ?_)
              refine gc_seq fun K67 hK67 => ?_
              refine gc_region ?_
              refine g_v (.free rfl) rfl rfl (qt_loadS (n := 11) rfl rfl Try.underlying26 rfl (by kernel_rfl) rfl) ?_
              refine g_v (.free rfl) rfl rfl (qt_move rfl rfl) ?_
              refine g_q (.free rfl) rfl rfl (qt_call rfl Try.func21 rfl (by decide) rfl (fun w M => heldC_any w _ _ _ ((mem_ownC (n := 10) M rfl).rd) (by first | assumption | omega) (by first | assumption | omega))) ?_
              refine g_v (.free rfl) rfl rfl (qt_assign rfl rfl) ?_
              refine g_nil ?_
              refine gk_then (hK67 _ _ ?_)
              refine gc_seq fun K68 hK68 => ?_
              refine gc_seq fun K69 hK69 => ?_
              refine gc_region ?_
              refine g_v (.free rfl) rfl rfl (qt_move rfl rfl) ?_
              refine g_v (.free rfl) rfl rfl (qt_lss rfl rfl rfl) ?_
              refine g_nil ?_
              refine gk_then (hK69 _ _ ?_)
              refine gc_cond rfl (fun hc2 => ?_) (fun hc2 => ?_)
              · try simp only [decide_eq_true_eq, decide_eq_false_iff_not, Bool.not_eq_true', Bool.not_eq_false', Bool.not_eq_eq_eq_not, Bool.not_true, Bool.not_false, ne_eq, Decidable.not_not, Classical.not_not] at hc2
                first | (exfalso; omega) | exact absurd rfl hc2 | (simp at hc2)
              · try simp only [decide_eq_true_eq, decide_eq_false_iff_not, Bool.not_eq_true', Bool.not_eq_false', Bool.not_eq_eq_eq_not, Bool.not_true, Bool.not_false, ne_eq, Decidable.not_not, Classical.not_not] at hc2
                refine gc_skip ?_
                refine gk_then (hK68 _ _ ?_)
                refine gc_seq fun K70 hK70 => ?_
                refine gc_seq fun K71 hK71 => ?_
                refine gc_region ?_
                refine g_v (.free rfl) rfl rfl (qt_move rfl rfl) ?_
                refine g_v (.free rfl) rfl rfl (qt_move rfl rfl) ?_
                refine g_v (.free rfl) rfl rfl (qt_neq rfl rfl rfl) ?_
                refine g_nil ?_
                refine gk_then (hK71 _ _ ?_)
                refine gc_cond rfl (fun hc3 => ?_) (fun hc3 => ?_)
                · try simp only [decide_eq_true_eq, decide_eq_false_iff_not, Bool.not_eq_true', Bool.not_eq_false', Bool.not_eq_eq_eq_not, Bool.not_true, Bool.not_false, ne_eq, Decidable.not_not, Classical.not_not] at hc3
                  first | (exfalso; omega) | exact absurd rfl hc3 | (simp at hc3)
                · try simp only [decide_eq_true_eq, decide_eq_false_iff_not, Bool.not_eq_true', Bool.not_eq_false', Bool.not_eq_eq_eq_not, Bool.not_true, Bool.not_false, ne_eq, Decidable.not_not, Classical.not_not] at hc3
                  refine gc_skip ?_
                  refine gk_then (hK70 _ _ ?_)
                  refine gc_seq fun K72 hK72 => ?_
                  try simp only [List.nil_append, List.cons_append, List.append_assoc, List.set_cons_succ, List.set_cons_zero]
                  refine ga_start _ (fun w M => M) ?_
                  refine ga_v 0 rfl (by kernel_rfl) (by kernel_rfl) (by kernel_rfl) (.free rfl) rfl rfl (qt_loadS (n := 0) rfl rfl Try.underlying39 rfl (by kernel_rfl) rfl) (fun _ _ _ h => h) ?_
                  refine ga_v 2 rfl (by kernel_rfl) (by kernel_rfl) (by kernel_rfl) (.free rfl) rfl rfl (qt_loadS (n := 1) rfl rfl Try.underlying39 rfl (by kernel_rfl) rfl) (fun _ _ _ h => h) ?_
                  refine ga_two 1 8 (by kernel_rfl) rfl rfl (.free rfl) (.free rfl) (fun K73 hK73 => ?_) (fun K73 hK73 => ?_)
                  · refine go_callC1 rfl rfl rfl Try.func29 rfl (by decide) rfl (fun w M => toC_any w _ _ (mem_rdC M R0)) ?_
                    intro ca74 cb74 cc74 cd74 ce74 cf74 cg74 ch74
                    refine hK73 _ _ (fun w M => (mem_take 14 M :)) ?_
                    refine ga_two 3 8 (by kernel_rfl) rfl rfl (.free rfl) (.free rfl) (fun K76 hK76 => ?_) (fun K76 hK76 => ?_)
                    · refine go_callC1 rfl rfl rfl Try.func29 rfl (by decide) rfl (fun w M => toC_any w _ _ (mem_rdC M R1)) ?_
                      intro ca77 cb77 cc77 cd77 ce77 cf77 cg77 ch77
                      refine hK76 _ _ (fun w M => (mem_take 14 M :)) ?_
                      refine ga_two 4 8 (by kernel_rfl) rfl rfl (.free rfl) (.free rfl) (fun K79 hK79 => ?_) (fun K79 hK79 => ?_)
                      · refine go_callCI1 rfl rfl rfl Try.func36 rfl (by decide) rfl (fun w M => himpl w _ _ ((mem_ownC (n := 14) M rfl).rd) ((mem_ownC (n := 15) M rfl).rd)) ?_
                        intro ca80 cb80 cc80 cd80 ce80 cf80 cg80 ch80
                        refine hK79 _ _ (fun w M => (mem_take 14 M :)) ?_
                        refine ga_v 5 rfl (by kernel_rfl) (by kernel_rfl) (by kernel_rfl) (.free rfl) rfl rfl (qt_move rfl rfl) (fun _ _ _ h => h) ?_
                        refine ga_v 6 rfl (by kernel_rfl) (by kernel_rfl) (by kernel_rfl) (.free rfl) rfl rfl (qt_extract rfl rfl rfl) (fun _ _ _ h => h) ?_
                        refine ga_v 7 rfl (by kernel_rfl) (by kernel_rfl) (by kernel_rfl) (.free rfl) rfl rfl (qt_extract rfl rfl rfl) (fun _ _ _ h => h) ?_
                        refine ga_op 8 (by kernel_rfl) rfl (.free rfl) fun K83 hK83 => ?_
                        refine go_alloc (z := (.agg #[.int .i64 0, .slice none 0 0, .slice none 0 0, .slice none 0 0, .slice none 0 0])) (cs := [.int .i64 0, .slice none 0 0, .slice none 0 0, .slice none 0 0, .slice none 0 0]) rfl rfl rfl (fun w => by kernel_rfl) rfl ?_
                        intro B82
                        refine hK83 _ _ (fun w M => (mem_take 14 M :)) ?_
                        refine ga_op 9 (by kernel_rfl) rfl (.free rfl) fun K84 hK84 => ?_
                        refine go_storeS (n := 17) rfl rfl rfl rfl (by kernel_rfl) rfl rfl rfl ?_
                        refine hK84 _ _ (fun w M => (mem_take 14 M :)) ?_
                        refine ga_v 10 rfl (by kernel_rfl) (by kernel_rfl) (by kernel_rfl) (.free rfl) rfl rfl (qt_assign rfl rfl) (fun _ _ _ h => h) ?_
                        refine ga_done (by kernel_rfl) ?_
                        refine gk_then (hK72 _ _ ?_)
                        refine gc_seq fun K85 hK85 => ?_
                        refine gc_seq fun K86 hK86 => ?_
                        refine gc_region ?_
                        refine g_v (.free rfl) rfl rfl (qt_loadS (n := 17) rfl rfl Try.underlying26 rfl (by kernel_rfl) rfl) ?_
                        refine g_v (.free rfl) rfl rfl (qt_loadS (n := 5) rfl rfl Try.underlying26 rfl (by kernel_rfl) rfl) ?_
                        refine g_q (.free rfl) rfl rfl (qt_call rfl Try.func17 rfl (by decide) rfl (fun w M => eqC_refl_any w _ _ _ ((mem_ownC (n := 16) M rfl).rd) ((mem_ownC (n := 4) M rfl).rd))) ?_
                        refine g_v (.free rfl) rfl rfl (qt_not rfl rfl) ?_
                        refine g_v (.free rfl) rfl rfl (qt_move rfl rfl) ?_
                        refine g_v (.held _ _ _ rfl rfl rfl) rfl rfl (qt_move rfl rfl) ?_
                        refine g_v (.held _ _ _ rfl rfl rfl) rfl rfl (qt_move rfl rfl) ?_
                        refine g_v (.held _ _ _ rfl rfl rfl) rfl rfl (qt_neq_f rfl rfl rfl (fun h => h rfl)) ?_
                        refine g_v (.free rfl) rfl rfl (qt_pick_f rfl rfl rfl) ?_
                        refine g_nil ?_
                        refine gk_then (hK86 _ _ ?_)
                        refine gc_cond_f rfl ?_
                        refine gc_skip ?_
                        refine gk_then (hK85 _ _ ?_)
                        refine gc_seq fun K87 hK87 => ?_
                        refine gc_region ?_
                        refine g_v (.free rfl) rfl rfl (qt_assign rfl rfl) ?_
                        refine g_nil ?_
                        refine gk_then (hK87 _ _ ?_)
                        refine gc_seq fun K88 hK88 => ?_
                        refine gc_region ?_
                        refine g_v (.free rfl) rfl rfl (qt_loadS (n := 11) rfl rfl Try.underlying26 rfl (by kernel_rfl) rfl) ?_
                        refine g_v (.free rfl) rfl rfl (qt_move rfl rfl) ?_
                        refine g_q (.free rfl) rfl rfl (qt_call rfl Try.func21 rfl (by decide) rfl (fun w M => heldC_any w _ _ _ ((mem_ownC (n := 10) M rfl).rd) (by first | assumption | omega) (by first | assumption | omega))) ?_
                        refine g_v (.free rfl) rfl rfl (qt_assign rfl rfl) ?_
                        refine g_nil ?_
                        refine gk_then (hK88 _ _ ?_)
                        refine gc_seq fun K89 hK89 => ?_
                        refine gc_seq fun K90 hK90 => ?_
                        refine gc_region ?_
                        refine g_v (.free rfl) rfl rfl (qt_move rfl rfl) ?_
                        refine g_v (.free rfl) rfl rfl (qt_lss rfl rfl rfl) ?_
                        refine g_nil ?_
                        refine gk_then (hK90 _ _ ?_)
                        refine gc_cond rfl (fun hc4 => ?_) (fun hc4 => ?_)
                        · try simp only [decide_eq_true_eq, decide_eq_false_iff_not, Bool.not_eq_true', Bool.not_eq_false', Bool.not_eq_eq_eq_not, Bool.not_true, Bool.not_false, ne_eq, Decidable.not_not, Classical.not_not] at hc4
                          first | (exfalso; omega) | exact absurd rfl hc4 | (simp at hc4)
                        · try simp only [decide_eq_true_eq, decide_eq_false_iff_not, Bool.not_eq_true', Bool.not_eq_false', Bool.not_eq_eq_eq_not, Bool.not_true, Bool.not_false, ne_eq, Decidable.not_not, Classical.not_not] at hc4
                          refine gc_skip ?_
                          refine gk_then (hK89 _ _ ?_)
                          refine gc_seq fun K91 hK91 => ?_
                          refine gc_seq fun K92 hK92 => ?_
                          refine gc_region ?_
                          refine g_v (.free rfl) rfl rfl (qt_move rfl rfl) ?_
                          refine g_v (.free rfl) rfl rfl (qt_move rfl rfl) ?_
                          refine g_v (.free rfl) rfl rfl (qt_neq rfl rfl rfl) ?_
                          refine g_nil ?_
                          refine gk_then (hK92 _ _ ?_)
                          refine gc_cond rfl (fun hc5 => ?_) (fun hc5 => ?_)
                          · try simp only [decide_eq_true_eq, decide_eq_false_iff_not, Bool.not_eq_true', Bool.not_eq_false', Bool.not_eq_eq_eq_not, Bool.not_true, Bool.not_false, ne_eq, Decidable.not_not, Classical.not_not] at hc5
                            first | (exfalso; omega) | exact absurd rfl hc5 | (simp at hc5)
                          · try simp only [decide_eq_true_eq, decide_eq_false_iff_not, Bool.not_eq_true', Bool.not_eq_false', Bool.not_eq_eq_eq_not, Bool.not_true, Bool.not_false, ne_eq, Decidable.not_not, Classical.not_not] at hc5
                            refine gc_skip ?_
                            refine gk_then (hK91 _ _ ?_)
                            refine gc_seq fun K93 hK93 => ?_
                            refine gc_region ?_
                            refine g_v (.free rfl) rfl rfl (qt_assign rfl rfl) ?_
                            refine g_nil ?_
                            refine gk_then (hK93 _ _ ?_)
                            refine gc_ret ?_
                            refine ret_1 rfl rfl  (fun w M => ?_)
                            exact ⟨rfl, M.1⟩
                      · refine go_alloc (z := (.agg #[.int .i64 0, .slice none 0 0, .slice none 0 0, .slice none 0 0, .slice none 0 0])) (cs := [.int .i64 0, .slice none 0 0, .slice none 0 0, .slice none 0 0, .slice none 0 0]) rfl rfl rfl (fun w => by kernel_rfl) rfl ?_
                        intro B94
                        refine hK79 _ _ (fun w M => (mem_take 14 M :)) ?_
                        refine ga_op 4 (by kernel_rfl) rfl (.free rfl) fun K97 hK97 => ?_
                        refine go_callCI1 rfl rfl rfl Try.func36 rfl (by decide) rfl (fun w M => himpl w _ _ ((mem_ownC (n := 14) M rfl).rd) ((mem_ownC (n := 15) M rfl).rd)) ?_
                        intro ca96 cb96 cc96 cd96 ce96 cf96 cg96 ch96
                        refine hK97 _ _ (fun w M => (mem_take 14 M :)) ?_
                        refine ga_v 5 rfl (by kernel_rfl) (by kernel_rfl) (by kernel_rfl) (.free rfl) rfl rfl (qt_move rfl rfl) (fun _ _ _ h => h) ?_
                        refine ga_v 6 rfl (by kernel_rfl) (by kernel_rfl) (by kernel_rfl) (.free rfl) rfl rfl (qt_extract rfl rfl rfl) (fun _ _ _ h => h) ?_
                        refine ga_v 7 rfl (by kernel_rfl) (by kernel_rfl) (by kernel_rfl) (.free rfl) rfl rfl (qt_extract rfl rfl rfl) (fun _ _ _ h => h) ?_
                        refine ga_op 9 (by kernel_rfl) rfl (.free rfl) fun K98 hK98 => ?_
                        refine go_storeS (n := 16) rfl rfl rfl rfl (by kernel_rfl) rfl rfl rfl ?_
                        refine hK98 _ _ (fun w M => (mem_take 14 M :)) ?_
                        refine ga_v 10 rfl (by kernel_rfl) (by kernel_rfl) (by kernel_rfl) (.free rfl) rfl rfl (qt_assign rfl rfl) (fun _ _ _ h => h) ?_
                        refine ga_done (by kernel_rfl) ?_
                        refine gk_then (hK72 _ _ ?_)
                        refine gc_seq fun K99 hK99 => ?_
                        refine gc_seq fun K100 hK100 => ?_
                        refine gc_region ?_
                        refine g_v (.free rfl) rfl rfl (qt_loadS (n := 16) rfl rfl Try.underlying26 rfl (by kernel_rfl) rfl) ?_
                        refine g_v (.free rfl) rfl rfl (qt_loadS (n := 5) rfl rfl Try.underlying26 rfl (by kernel_rfl) rfl) ?_
                        refine g_q (.free rfl) rfl rfl (qt_call rfl Try.func17 rfl (by decide) rfl (fun w M => eqC_refl_any w _ _ _ ((mem_ownC (n := 17) M rfl).rd) ((mem_ownC (n := 4) M rfl).rd))) ?_
                        refine g_v (.free rfl) rfl rfl (qt_not rfl rfl) ?_
                        refine g_v (.free rfl) rfl rfl (qt_move rfl rfl) ?_
                        refine g_v (.held _ _ _ rfl rfl rfl) rfl rfl (qt_move rfl rfl) ?_
                        refine g_v (.held _ _ _ rfl rfl rfl) rfl rfl (qt_move rfl rfl) ?_
                        refine g_v (.held _ _ _ rfl rfl rfl) rfl rfl (qt_neq_f rfl rfl rfl (fun h => h rfl)) ?_
                        refine g_v (.free rfl) rfl rfl (qt_pick_f rfl rfl rfl) ?_
                        refine g_nil ?_
                        refine gk_then (hK100 _ _ ?_)
                        refine gc_cond_f rfl ?_
                        refine gc_skip ?_
                        refine gk_then (hK99 _ _ ?_)
                        refine gc_seq fun K101 hK101 => ?_
                        refine gc_region ?_
                        refine g_v (.free rfl) rfl rfl (qt_assign rfl rfl) ?_
                        refine g_nil ?_
                        refine gk_then (hK101 _ _ ?_)
                        refine gc_seq fun K102 hK102 => ?_
                        refine gc_region ?_
                        refine g_v (.free rfl) rfl rfl (qt_loadS (n := 11) rfl rfl Try.underlying26 rfl (by kernel_rfl) rfl) ?_
                        refine g_v (.free rfl) rfl rfl (qt_move rfl rfl) ?_
                        refine g_q (.free rfl) rfl rfl (qt_call rfl Try.func21 rfl (by decide) rfl (fun w M => heldC_any w _ _ _ ((mem_ownC (n := 10) M rfl).rd) (by first | assumption | omega) (by first | assumption | omega))) ?_
                        refine g_v (.free rfl) rfl rfl (qt_assign rfl rfl) ?_
                        refine g_nil ?_
                        refine gk_then (hK102 _ _ ?_)
                        refine gc_seq fun K103 hK103 => ?_
                        refine gc_seq fun K104 hK104 => ?_
                        refine gc_region ?_
                        refine g_v (.free rfl) rfl rfl (qt_move rfl rfl) ?_
                        refine g_v (.free rfl) rfl rfl (qt_lss rfl rfl rfl) ?_
                        refine g_nil ?_
                        refine gk_then (hK104 _ _ ?_)
                        refine gc_cond rfl (fun hc6 => ?_) (fun hc6 => ?_)
                        · try simp only [decide_eq_true_eq, decide_eq_false_iff_not, Bool.not_eq_true', Bool.not_eq_false', Bool.not_eq_eq_eq_not, Bool.not_true, Bool.not_false, ne_eq, Decidable.not_not, Classical.not_not] at hc6
                          first | (exfalso; omega) | exact absurd rfl hc6 | (simp at hc6)
                        · try simp only [decide_eq_true_eq, decide_eq_false_iff_not, Bool.not_eq_true', Bool.not_eq_false', Bool.not_eq_eq_eq_not, Bool.not_true, Bool.not_false, ne_eq, Decidable.not_not, Classical.not_not] at hc6
                          refine gc_skip ?_
                          refine gk_then (hK103 _ _ ?_)
                          refine gc_seq fun K105 hK105 => ?_
                          refine gc_seq fun K106 hK106 => ?_
                          refine gc_region ?_
                          refine g_v (.free rfl) rfl rfl (qt_move rfl rfl) ?_
                          refine g_v (.free rfl) rfl rfl (qt_move rfl rfl) ?_
                          refine g_v (.free rfl) rfl rfl (qt_neq rfl rfl rfl) ?_
                          refine g_nil ?_
                          refine gk_then (hK106 _ _ ?_)
                          refine gc_cond rfl (fun hc7 => ?_) (fun hc7 => ?_)
                          · try simp only [decide_eq_true_eq, decide_eq_false_iff_not, Bool.not_eq_true', Bool.not_eq_false', Bool.not_eq_eq_eq_not, Bool.not_true, Bool.not_false, ne_eq, Decidable.not_not, Classical.not_not] at hc7
                            first | (exfalso; omega) | exact absurd rfl hc7 | (simp at hc7)
                          · try simp only [decide_eq_true_eq, decide_eq_false_iff_not, Bool.not_eq_true', Bool.not_eq_false', Bool.not_eq_eq_eq_not, Bool.not_true, Bool.not_false, ne_eq, Decidable.not_not, Classical.not_not] at hc7
                            refine gc_skip ?_
                            refine gk_then (hK105 _ _ ?_)
                            refine gc_seq fun K107 hK107 => ?_
                            refine gc_region ?_
                            refine g_v (.free rfl) rfl rfl (qt_assign rfl rfl) ?_
                            refine g_nil ?_
                            refine gk_then (hK107 _ _ ?_)
                            refine gc_ret ?_
                            refine ret_1 rfl rfl  (fun w M => ?_)
                            exact ⟨rfl, M.1⟩
                    · refine go_alloc (z := (.agg #[.int .i64 0, .slice none 0 0, .slice none 0 0, .slice none 0 0, .slice none 0 0])) (cs := [.int .i64 0, .slice none 0 0, .slice none 0 0, .slice none 0 0, .slice none 0 0]) rfl rfl rfl (fun w => by kernel_rfl) rfl ?_
                      intro B108
                      refine hK76 _ _ (fun w M => (mem_take 14 M :)) ?_
                      refine ga_op 3 (by kernel_rfl) rfl (.free rfl) fun K111 hK111 => ?_
                      refine go_callC1 rfl rfl rfl Try.func29 rfl (by decide) rfl (fun w M => toC_any w _ _ (mem_rdC M R1)) ?_
                      intro ca110 cb110 cc110 cd110 ce110 cf110 cg110 ch110
                      refine hK111 _ _ (fun w M => (mem_take 14 M :)) ?_
                      refine ga_op 4 (by kernel_rfl) rfl (.free rfl) fun K113 hK113 => ?_
                      refine go_callCI1 rfl rfl rfl Try.func36 rfl (by decide) rfl (fun w M => himpl w _ _ ((mem_ownC (n := 14) M rfl).rd) ((mem_ownC (n := 16) M rfl).rd)) ?_
                      intro ca112 cb112 cc112 cd112 ce112 cf112 cg112 ch112
                      refine hK113 _ _ (fun w M => (mem_take 14 M :)) ?_
                      refine ga_v 5 rfl (by kernel_rfl) (by kernel_rfl) (by kernel_rfl) (.free rfl) rfl rfl (qt_move rfl rfl) (fun _ _ _ h => h) ?_
                      refine ga_v 6 rfl (by kernel_rfl) (by kernel_rfl) (by kernel_rfl) (.free rfl) rfl rfl (qt_extract rfl rfl rfl) (fun _ _ _ h => h) ?_
                      refine ga_v 7 rfl (by kernel_rfl) (by kernel_rfl) (by kernel_rfl) (.free rfl) rfl rfl (qt_extract rfl rfl rfl) (fun _ _ _ h => h) ?_
                      refine ga_op 9 (by kernel_rfl) rfl (.free rfl) fun K114 hK114 => ?_
                      refine go_storeS (n := 15) rfl rfl rfl rfl (by kernel_rfl) rfl rfl rfl ?_
                      refine hK114 _ _ (fun w M => (mem_take 14 M :)) ?_
                      refine ga_v 10 rfl (by kernel_rfl) (by kernel_rfl) (by kernel_rfl) (.free rfl) rfl rfl (qt_assign rfl rfl) (fun _ _ _ h => h) ?_
                      refine ga_done (by kernel_rfl) ?_
                      refine gk_then (hK72 _ _ ?_)
                      refine gc_seq fun K115 hK115 => ?_
                      refine gc_seq fun K116 hK116 => ?_
                      refine gc_region ?_
                      refine g_v (.free rfl) rfl rfl (qt_loadS (n := 15) rfl rfl Try.underlying26 rfl (by kernel_rfl) rfl) ?_
                      refine g_v (.free rfl) rfl rfl (qt_loadS (n := 5) rfl rfl Try.underlying26 rfl (by kernel_rfl) rfl) ?_
                      refine g_q (.free rfl) rfl rfl (qt_call rfl Try.func17 rfl (by decide) rfl (fun w M => eqC_refl_any w _ _ _ ((mem_ownC (n := 17) M rfl).rd) ((mem_ownC (n := 4) M rfl).rd))) ?_
                      refine g_v (.free rfl) rfl rfl (qt_not rfl rfl) ?_
                      refine g_v (.free rfl) rfl rfl (qt_move rfl rfl) ?_
                      refine g_v (.held _ _ _ rfl rfl rfl) rfl rfl (qt_move rfl rfl) ?_
                      refine g_v (.held _ _ _ rfl rfl rfl) rfl rfl (qt_move rfl rfl) ?_
                      refine g_v (.held _ _ _ rfl rfl rfl) rfl rfl (qt_neq_f rfl rfl rfl (fun h => h rfl)) ?_
                      refine g_v (.free rfl) rfl rfl (qt_pick_f rfl rfl rfl) ?_
                      refine g_nil ?_
                      refine gk_then (hK116 _ _ ?_)
                      refine gc_cond_f rfl ?_
                      refine gc_skip ?_
                      refine gk_then (hK115 _ _ ?_)
                      refine gc_seq fun K117 hK117 => ?_
                      refine gc_region ?_
                      refine g_v (.free rfl) rfl rfl (qt_assign rfl rfl) ?_
                      refine g_nil ?_
                      refine gk_then (hK117 _ _ ?_)
                      refine gc_seq fun K118 hK118 => ?_
                      refine gc_region ?_
                      refine g_v (.free rfl) rfl rfl (qt_loadS (n := 11) rfl rfl Try.underlying26 rfl (by kernel_rfl) rfl) ?_
                      refine g_v (.free rfl) rfl rfl (qt_move rfl rfl) ?_
                      refine g_q (.free rfl) rfl rfl (qt_call rfl Try.func21 rfl (by decide) rfl (fun w M => heldC_any w _ _ _ ((mem_ownC (n := 10) M rfl).rd) (by first | assumption | omega) (by first | assumption | omega))) ?_
                      refine g_v (.free rfl) rfl rfl (qt_assign rfl rfl) ?_
                      refine g_nil ?_
                      refine gk_then (hK118 _ _ ?_)
                      refine gc_seq fun K119 hK119 => ?_
                      refine gc_seq fun K120 hK120 => ?_
                      refine gc_region ?_
                      refine g_v (.free rfl) rfl rfl (qt_move rfl rfl) ?_
                      refine g_v (.free rfl) rfl rfl (qt_lss rfl rfl rfl) ?_
                      refine g_nil ?_
                      refine gk_then (hK120 _ _ ?_)
                      refine gc_cond rfl (fun hc8 => ?_) (fun hc8 => ?_)
                      · try simp only [decide_eq_true_eq, decide_eq_false_iff_not, Bool.not_eq_true', Bool.not_eq_false', Bool.not_eq_eq_eq_not, Bool.not_true, Bool.not_false, ne_eq, Decidable.not_not, Classical.not_not] at hc8
                        first | (exfalso; omega) | exact absurd rfl hc8 | (simp at hc8)
                      · try simp only [decide_eq_true_eq, decide_eq_false_iff_not, Bool.not_eq_true', Bool.not_eq_false', Bool.not_eq_eq_eq_not, Bool.not_true, Bool.not_false, ne_eq, Decidable.not_not, Classical.not_not] at hc8
                        refine gc_skip ?_
                        refine gk_then (hK119 _ _ ?_)
                        refine gc_seq fun K121 hK121 => ?_
                        refine gc_seq fun K122 hK122 => ?_
                        refine gc_region ?_
                        refine g_v (.free rfl) rfl rfl (qt_move rfl rfl) ?_
                        refine g_v (.free rfl) rfl rfl (qt_move rfl rfl) ?_
                        refine g_v (.free rfl) rfl rfl (qt_neq rfl rfl rfl) ?_
                        refine g_nil ?_
                        refine gk_then (hK122 _ _ ?_)
                        refine gc_cond rfl (fun hc9 => ?_) (fun hc9 => ?_)
                        · try simp only [decide_eq_true_eq, decide_eq_false_iff_not, Bool.not_eq_true', Bool.not_eq_false', Bool.not_eq_eq_eq_not, Bool.not_true, Bool.not_false, ne_eq, Decidable.not_not, Classical.not_not] at hc9
                          first | (exfalso; omega) | exact absurd rfl hc9 | (simp at hc9)
                        · try simp only [decide_eq_true_eq, decide_eq_false_iff_not, Bool.not_eq_true', Bool.not_eq_false', Bool.not_eq_eq_eq_not, Bool.not_true, Bool.not_false, ne_eq, Decidable.not_not, Classical.not_not] at hc9
                          refine gc_skip ?_
                          refine gk_then (hK121 _ _ ?_)
                          refine gc_seq fun K123 hK123 => ?_
                          refine gc_region ?_
                          refine g_v (.free rfl) rfl rfl (qt_assign rfl rfl) ?_
                          refine g_nil ?_
                          refine gk_then (hK123 _ _ ?_)
                          refine gc_ret ?_
                          refine ret_1 rfl rfl  (fun w M => ?_)
                          exact ⟨rfl, M.1⟩
                  · refine go_alloc (z := (.agg #[.int .i64 0, .slice none 0 0, .slice none 0 0, .slice none 0 0, .slice none 0 0])) (cs := [.int .i64 0, .slice none 0 0, .slice none 0 0, .slice none 0 0, .slice none 0 0]) rfl rfl rfl (fun w => by kernel_rfl) rfl ?_
                    intro B124
                    refine hK73 _ _ (fun w M => (mem_take 14 M :)) ?_
                    refine ga_op 1 (by kernel_rfl) rfl (.free rfl) fun K127 hK127 => ?_
                    refine go_callC1 rfl rfl rfl Try.func29 rfl (by decide) rfl (fun w M => toC_any w _ _ (mem_rdC M R0)) ?_
                    intro ca126 cb126 cc126 cd126 ce126 cf126 cg126 ch126
                    refine hK127 _ _ (fun w M => (mem_take 14 M :)) ?_
                    refine ga_op 3 (by kernel_rfl) rfl (.free rfl) fun K129 hK129 => ?_
                    refine go_callC1 rfl rfl rfl Try.func29 rfl (by decide) rfl (fun w M => toC_any w _ _ (mem_rdC M R1)) ?_
                    intro ca128 cb128 cc128 cd128 ce128 cf128 cg128 ch128
                    refine hK129 _ _ (fun w M => (mem_take 14 M :)) ?_
                    refine ga_op 4 (by kernel_rfl) rfl (.free rfl) fun K131 hK131 => ?_
                    refine go_callCI1 rfl rfl rfl Try.func36 rfl (by decide) rfl (fun w M => himpl w _ _ ((mem_ownC (n := 15) M rfl).rd) ((mem_ownC (n := 16) M rfl).rd)) ?_
                    intro ca130 cb130 cc130 cd130 ce130 cf130 cg130 ch130
                    refine hK131 _ _ (fun w M => (mem_take 14 M :)) ?_
                    refine ga_v 5 rfl (by kernel_rfl) (by kernel_rfl) (by kernel_rfl) (.free rfl) rfl rfl (qt_move rfl rfl) (fun _ _ _ h => h) ?_
                    refine ga_v 6 rfl (by kernel_rfl) (by kernel_rfl) (by kernel_rfl) (.free rfl) rfl rfl (qt_extract rfl rfl rfl) (fun _ _ _ h => h) ?_
                    refine ga_v 7 rfl (by kernel_rfl) (by kernel_rfl) (by kernel_rfl) (.free rfl) rfl rfl (qt_extract rfl rfl rfl) (fun _ _ _ h => h) ?_
                    refine ga_op 9 (by kernel_rfl) rfl (.free rfl) fun K132 hK132 => ?_
                    refine go_storeS (n := 14) rfl rfl rfl rfl (by kernel_rfl) rfl rfl rfl ?_
                    refine hK132 _ _ (fun w M => (mem_take 14 M :)) ?_
                    refine ga_v 10 rfl (by kernel_rfl) (by kernel_rfl) (by kernel_rfl) (.free rfl) rfl rfl (qt_assign rfl rfl) (fun _ _ _ h => h) ?_
                    refine ga_done (by kernel_rfl) ?_
                    refine gk_then (hK72 _ _ ?_)
                    refine gc_seq fun K133 hK133 => ?_
                    refine gc_seq fun K134 hK134 => ?_
                    refine gc_region ?_
                    refine g_v (.free rfl) rfl rfl (qt_loadS (n := 14) rfl rfl Try.underlying26 rfl (by kernel_rfl) rfl) ?_
                    refine g_v (.free rfl) rfl rfl (qt_loadS (n := 5) rfl rfl Try.underlying26 rfl (by kernel_rfl) rfl) ?_
                    refine g_q (.free rfl) rfl rfl (qt_call rfl Try.func17 rfl (by decide) rfl (fun w M => eqC_refl_any w _ _ _ ((mem_ownC (n := 17) M rfl).rd) ((mem_ownC (n := 4) M rfl).rd))) ?_
                    refine g_v (.free rfl) rfl rfl (qt_not rfl rfl) ?_
                    refine g_v (.free rfl) rfl rfl (qt_move rfl rfl) ?_
                    refine g_v (.held _ _ _ rfl rfl rfl) rfl rfl (qt_move rfl rfl) ?_
                    refine g_v (.held _ _ _ rfl rfl rfl) rfl rfl (qt_move rfl rfl) ?_
                    refine g_v (.held _ _ _ rfl rfl rfl) rfl rfl (qt_neq_f rfl rfl rfl (fun h => h rfl)) ?_
                    refine g_v (.free rfl) rfl rfl (qt_pick_f rfl rfl rfl) ?_
                    refine g_nil ?_
                    refine gk_then (hK134 _ _ ?_)
                    refine gc_cond_f rfl ?_
                    refine gc_skip ?_
                    refine gk_then (hK133 _ _ ?_)
                    refine gc_seq fun K135 hK135 => ?_
                    refine gc_region ?_
                    refine g_v (.free rfl) rfl rfl (qt_assign rfl rfl) ?_
                    refine g_nil ?_
                    refine gk_then (hK135 _ _ ?_)
                    refine gc_seq fun K136 hK136 => ?_
                    refine gc_region ?_
                    refine g_v (.free rfl) rfl rfl (qt_loadS (n := 11) rfl rfl Try.underlying26 rfl (by kernel_rfl) rfl) ?_
                    refine g_v (.free rfl) rfl rfl (qt_move rfl rfl) ?_
                    refine g_q (.free rfl) rfl rfl (qt_call rfl Try.func21 rfl (by decide) rfl (fun w M => heldC_any w _ _ _ ((mem_ownC (n := 10) M rfl).rd) (by first | assumption | omega) (by first | assumption | omega))) ?_
                    refine g_v (.free rfl) rfl rfl (qt_assign rfl rfl) ?_
                    refine g_nil ?_
                    refine gk_then (hK136 _ _ ?_)
                    refine gc_seq fun K137 hK137 => ?_
                    refine gc_seq fun K138 hK138 => ?_
                    refine gc_region ?_
                    refine g_v (.free rfl) rfl rfl (qt_move rfl rfl) ?_
                    refine g_v (.free rfl) rfl rfl (qt_lss rfl rfl rfl) ?_
                    refine g_nil ?_
                    refine gk_then (hK138 _ _ ?_)
                    refine gc_cond rfl (fun hc10 => ?_) (fun hc10 => ?_)
                    · try simp only [decide_eq_true_eq, decide_eq_false_iff_not, Bool.not_eq_true', Bool.not_eq_false', Bool.not_eq_eq_eq_not, Bool.not_true, Bool.not_false, ne_eq, Decidable.not_not, Classical.not_not] at hc10
                      first | (exfalso; omega) | exact absurd rfl hc10 | (simp at hc10)
                    · try simp only [decide_eq_true_eq, decide_eq_false_iff_not, Bool.not_eq_true', Bool.not_eq_false', Bool.not_eq_eq_eq_not, Bool.not_true, Bool.not_false, ne_eq, Decidable.not_not, Classical.not_not] at hc10
                      refine gc_skip ?_
                      refine gk_then (hK137 _ _ ?_)
                      refine gc_seq fun K139 hK139 => ?_
                      refine gc_seq fun K140 hK140 => ?_
                      refine gc_region ?_
                      refine g_v (.free rfl) rfl rfl (qt_move rfl rfl) ?_
                      refine g_v (.free rfl) rfl rfl (qt_move rfl rfl) ?_
                      refine g_v (.free rfl) rfl rfl (qt_neq rfl rfl rfl) ?_
                      refine g_nil ?_
                      refine gk_then (hK140 _ _ ?_)
                      refine gc_cond rfl (fun hc11 => ?_) (fun hc11 => ?_)
                      · try simp only [decide_eq_true_eq, decide_eq_false_iff_not, Bool.not_eq_true', Bool.not_eq_false', Bool.not_eq_eq_eq_not, Bool.not_true, Bool.not_false, ne_eq, Decidable.not_not, Classical.not_not] at hc11
                        first | (exfalso; omega) | exact absurd rfl hc11 | (simp at hc11)
                      · try simp only [decide_eq_true_eq, decide_eq_false_iff_not, Bool.not_eq_true', Bool.not_eq_false', Bool.not_eq_eq_eq_not, Bool.not_true, Bool.not_false, ne_eq, Decidable.not_not, Classical.not_not] at hc11
                        refine gc_skip ?_
                        refine gk_then (hK139 _ _ ?_)
                        refine gc_seq fun K141 hK141 => ?_
                        refine gc_region ?_
                        refine g_v (.free rfl) rfl rfl (qt_assign rfl rfl) ?_
                        refine g_nil ?_
                        refine gk_then (hK141 _ _ ?_)
                        refine gc_ret ?_
                        refine ret_1 rfl rfl  (fun w M => ?_)
                        exact ⟨rfl, M.1⟩
          · refine go_alloc (z := (.agg #[.int .i64 0, .slice none 0 0, .slice none 0 0, .slice none 0 0, .slice none 0 0])) (cs := [.int .i64 0, .slice none 0 0, .slice none 0 0, .slice none 0 0, .slice none 0 0]) rfl rfl rfl (fun w => by kernel_rfl) rfl ?_
            intro B142
            refine hK20 _ _ (fun w M => (mem_take 2 M :)) ?_
            refine ga_op 4 (by kernel_rfl) rfl (.free rfl) fun K145 hK145 => ?_
            refine go_callCI1 rfl rfl rfl Try.func35 rfl (by decide) rfl (fun w M => hspec w _ _ ((mem_ownC (n := 2) M rfl).rd) ((mem_ownC (n := 3) M rfl).rd)) ?_
            intro ca144 cb144 cc144 cd144 ce144 cf144 cg144 ch144
            refine hK145 _ _ (fun w M => (mem_take 2 M :)) ?_
            refine ga_v 5 rfl (by kernel_rfl) (by kernel_rfl) (by kernel_rfl) (.free rfl) rfl rfl (qt_move rfl rfl) (fun _ _ _ h => h) ?_
            refine ga_v 6 rfl (by kernel_rfl) (by kernel_rfl) (by kernel_rfl) (.free rfl) rfl rfl (qt_extract rfl rfl rfl) (fun _ _ _ h => h) ?_
            refine ga_v 7 rfl (by kernel_rfl) (by kernel_rfl) (by kernel_rfl) (.free rfl) rfl rfl (qt_extract rfl rfl rfl) (fun _ _ _ h => h) ?_
            refine ga_op 9 (by kernel_rfl) rfl (.free rfl) fun K146 hK146 => ?_
            refine go_storeS (n := 4) rfl rfl rfl rfl (by kernel_rfl) rfl rfl rfl ?_
            refine hK146 _ _ (fun w M => (mem_take 2 M :)) ?_
            refine ga_v 10 rfl (by kernel_rfl) (by kernel_rfl) (by kernel_rfl) (.free rfl) rfl rfl (qt_assign rfl rfl) (fun _ _ _ h => h) ?_
            refine ga_done (by kernel_rfl) ?_
            refine gk_then (hK13 _ _ ?_)
            refine gc_seq fun K147 hK147 => ?_
            refine gc_region ?_
            refine g_v (.free rfl) rfl rfl (qt_loadS (n := 0) rfl rfl Try.underlying39 rfl (by kernel_rfl) rfl) ?_
            refine g_op (.free rfl) fun K149 hK149 => ?_
            refine go_callC1 rfl rfl rfl Try.func29 rfl (by decide) rfl (fun w M => toC_any w _ _ (mem_rdC M R0)) ?_
            intro ca148 cb148 cc148 cd148 ce148 cf148 cg148 ch148
            refine hK149 _ _ ?_
            refine g_op (.free rfl) fun K151 hK151 => ?_
            refine go_alloc (z := (.agg #[.int .i64 0, .slice none 0 0, .slice none 0 0, .slice none 0 0, .slice none 0 0])) (cs := [.int .i64 0, .slice none 0 0, .slice none 0 0, .slice none 0 0, .slice none 0 0]) rfl rfl rfl (fun w => by kernel_rfl) rfl ?_
            intro B150
            refine hK151 _ _ ?_
            refine g_op (.free rfl) fun K152 hK152 => ?_
            refine go_storeS (n := 7) rfl rfl rfl rfl (by kernel_rfl) rfl rfl rfl ?_
            refine hK152 _ _ ?_
            refine g_nil ?_
            refine gk_then (hK147 _ _ ?_)
            refine gc_seq fun K153 hK153 => ?_
            refine gc_region ?_
            refine g_v (.free rfl) rfl rfl (qt_loadS (n := 1) rfl rfl Try.underlying39 rfl (by kernel_rfl) rfl) ?_
            refine g_op (.free rfl) fun K155 hK155 => ?_
            refine go_callC1 rfl rfl rfl Try.func29 rfl (by decide) rfl (fun w M => toC_any w _ _ (mem_rdC M R1)) ?_
            intro ca154 cb154 cc154 cd154 ce154 cf154 cg154 ch154
            refine hK155 _ _ ?_
            refine g_op (.free rfl) fun K157 hK157 => ?_
            refine go_alloc (z := (.agg #[.int .i64 0, .slice none 0 0, .slice none 0 0, .slice none 0 0, .slice none 0 0])) (cs := [.int .i64 0, .slice none 0 0, .slice none 0 0, .slice none 0 0, .slice none 0 0]) rfl rfl rfl (fun w => by kernel_rfl) rfl ?_
            intro B156
            refine hK157 _ _ ?_
            refine g_op (.free rfl) fun K158 hK158 => ?_
            refine go_storeS (n := 9) rfl rfl rfl rfl (by kernel_rfl) rfl rfl rfl ?_
            refine hK158 _ _ ?_
            refine g_nil ?_
            refine gk_then (hK153 _ _ ?_)
            refine gc_seq fun K159 hK159 => ?_
            refine gc_region ?_
            refine g_v (.free rfl) rfl rfl (qt_loadS (n := 7) rfl rfl Try.underlying26 rfl (by kernel_rfl) rfl) ?_
            refine g_v (.free rfl) rfl rfl (qt_loadS (n := 9) rfl rfl Try.underlying26 rfl (by kernel_rfl) rfl) ?_
            refine g_op (.free rfl) fun K161 hK161 => ?_
            refine go_callCI1 rfl rfl rfl Try.func36 rfl (by decide) rfl (fun w M => himpl w _ _ ((mem_ownC (n := 6) M rfl).rd) ((mem_ownC (n := 8) M rfl).rd)) ?_
            intro ca160 cb160 cc160 cd160 ce160 cf160 cg160 ch160
            refine hK161 _ _ ?_
            refine g_v (.free rfl) rfl rfl (qt_move rfl rfl) ?_
            refine g_v (.free rfl) rfl rfl (qt_extract rfl rfl rfl) ?_
            refine g_v (.free rfl) rfl rfl (qt_extract rfl rfl rfl) ?_
            refine g_op (.free rfl) fun K163 hK163 => ?_
            refine go_alloc (z := (.agg #[.int .i64 0, .slice none 0 0, .slice none 0 0, .slice none 0 0, .slice none 0 0])) (cs := [.int .i64 0, .slice none 0 0, .slice none 0 0, .slice none 0 0, .slice none 0 0]) rfl rfl rfl (fun w => by kernel_rfl) rfl ?_
            intro B162
            refine hK163 _ _ ?_
            refine g_op (.free rfl) fun K164 hK164 => ?_
            refine go_storeS (n := 11) rfl rfl rfl rfl (by kernel_rfl) rfl rfl rfl ?_
            refine hK164 _ _ ?_
            refine g_v (.free rfl) rfl rfl (qt_assign rfl rfl) ?_
            refine g_nil ?_
            refine gk_then (hK159 _ _ ?_)
            refine gc_seq fun K165 hK165 => ?_
            refine gc_seq fun K166 hK166 => ?_
            refine gc_region ?_
            refine g_v (.free rfl) rfl rfl (qt_loadS (n := 11) rfl rfl Try.underlying26 rfl (by kernel_rfl) rfl) ?_
            refine g_v (.free rfl) rfl rfl (qt_loadS (n := 4) rfl rfl Try.underlying26 rfl (by kernel_rfl) rfl) ?_
            refine g_q (.free rfl) rfl rfl (qt_call rfl Try.func17 rfl (by decide) rfl (fun w M => eqC_refl_any w _ _ _ ((mem_ownC (n := 10) M rfl).rd) ((mem_ownC (n := 5) M rfl).rd))) ?_
            refine g_v (.free rfl) rfl rfl (qt_not rfl rfl) ?_
            refine g_v (.free rfl) rfl rfl (qt_move rfl rfl) ?_
            refine g_v (.held _ _ _ rfl rfl rfl) rfl rfl (qt_move rfl rfl) ?_
            refine g_v (.held _ _ _ rfl rfl rfl) rfl rfl (qt_move rfl rfl) ?_
            refine g_v (.held _ _ _ rfl rfl rfl) rfl rfl (qt_neq_f rfl rfl rfl (fun h => h rfl)) ?_
            refine g_v (.free rfl) rfl rfl (qt_pick_f rfl rfl rfl) ?_
            refine g_nil ?_
            refine gk_then (hK166 _ _ ?_)
            refine gc_cond_f rfl ?_
            refine gc_skip ?_
            refine gk_then (hK165 _ _ ?_)
            refine gc_seq fun K167 hK167 => ?_
            refine gc_seq fun K168 hK168 => ?_
            try simp only [List.nil_append, List.cons_append, List.append_assoc, List.set_cons_succ, List.set_cons_zero]
            refine ga_start _ (fun w M => M) ?_
            refine ga_v 0 rfl (by kernel_rfl) (by kernel_rfl) (by kernel_rfl) (.free rfl) rfl rfl (qt_loadS (n := 7) rfl rfl Try.underlying26 rfl (by kernel_rfl) rfl) (fun _ _ _ h => h) ?_
            refine ga_v 1 rfl (by kernel_rfl) (by kernel_rfl) (by kernel_rfl) (.free rfl) rfl rfl (qt_loadS (n := 0) rfl rfl Try.underlying39 rfl (by kernel_rfl) rfl) (fun _ _ _ h => h) ?_
            refine ga_op 2 (by kernel_rfl) rfl (.free rfl) fun K170 hK170 => ?_
            refine go_callC1 rfl rfl rfl Try.func29 rfl (by decide) rfl (fun w M => toC_any w _ _ (mem_rdC M R0)) ?_
            intro ca169 cb169 cc169 cd169 ce169 cf169 cg169 ch169
            refine hK170 _ _ (fun w M => (mem_take 12 M :)) ?_
            refine ga_op 3 (by kernel_rfl) rfl (.free rfl) fun K171 hK171 => ?_
            refine go_q rfl rfl (qt_call rfl Try.func17 rfl (by decide) rfl (fun w M => eqC_refl_any w _ _ _ ((mem_ownC (n := 6) M rfl).rd) ((mem_ownC (n := 12) M rfl).rd))) ?_
            refine hK171 _ _ (fun w M => (mem_take 12 M :)) ?_
            refine ga_v 4 rfl (by kernel_rfl) (by kernel_rfl) (by kernel_rfl) (.free rfl) rfl rfl (qt_not rfl rfl) (fun _ _ _ h => h) ?_
            refine ga_done (by kernel_rfl) ?_
            refine gk_then (hK168 _ _ ?_)
            refine gc_cond_f rfl ?_
            refine gc_skip ?_
            refine gk_then (hK167 _ _ ?_)
            refine gc_seq fun K172 hK172 => ?_
            refine gc_seq fun K173 hK173 => ?_
            try simp only [List.nil_append, List.cons_append, List.append_assoc, List.set_cons_succ, List.set_cons_zero]
            refine ga_start _ (fun w M => M) ?_
            refine ga_v 0 rfl (by kernel_rfl) (by kernel_rfl) (by kernel_rfl) (.free rfl) rfl rfl (qt_loadS (n := 9) rfl rfl Try.underlying26 rfl (by kernel_rfl) rfl) (fun _ _ _ h => h) ?_
            refine ga_v 1 rfl (by kernel_rfl) (by kernel_rfl) (by kernel_rfl) (.free rfl) rfl rfl (qt_loadS (n := 1) rfl rfl Try.underlying39 rfl (by kernel_rfl) rfl) (fun _ _ _ h => h) ?_
            refine ga_op 2 (by kernel_rfl) rfl (.free rfl) fun K175 hK175 => ?_
            refine go_callC1 rfl rfl rfl Try.func29 rfl (by decide) rfl (fun w M => toC_any w _ _ (mem_rdC M R1)) ?_
            intro ca174 cb174 cc174 cd174 ce174 cf174 cg174 ch174
            refine hK175 _ _ (fun w M => (mem_take 13 M :)) ?_
            refine ga_op 3 (by kernel_rfl) rfl (.free rfl) fun K176 hK176 => ?_
            refine go_q rfl rfl (qt_call rfl Try.func17 rfl (by decide) rfl (fun w M => eqC_refl_any w _ _ _ ((mem_ownC (n := 8) M rfl).rd) ((mem_ownC (n := 13) M rfl).rd))) ?_
            refine hK176 _ _ (fun w M => (mem_take 13 M :)) ?_
            refine ga_v 4 rfl (by kernel_rfl) (by kernel_rfl) (by kernel_rfl) (.free rfl) rfl rfl (qt_not rfl rfl) (fun _ _ _ h => h) ?_
            refine ga_done (by kernel_rfl) ?_
            refine gk_then (hK173 _ _ ?_)
            refine gc_cond_f rfl ?_
            refine gc_skip ?_
            refine gk_then (hK172 _ _ ?_)
            refine gc_seq fun K177 hK177 => ?_
            refine gc_region ?_
            refine g_v (.free rfl) rfl rfl (qt_assign rfl rfl) ?_
            refine g_nil ?_
            refine gk_then (hK177 _ _ ?_)
            refine gc_seq fun K178 hK178 => ?_
            refine gc_region ?_
            refine g_v (.free rfl) rfl rfl (qt_loadS (n := 7) rfl rfl Try.underlying26 rfl (by kernel_rfl) rfl) ?_
            refine g_v (.free rfl) rfl rfl (qt_move rfl rfl) ?_
            refine g_op (.free rfl) fun K179 hK179 => ?_
            refine go_mark (ownCI _ (mkC _ _)) (n := 6) rfl rfl rfl Try.func20 rfl (by decide) rfl rfl (fun w S hS => markC_any w S _ _ _ hS (by omega) (by omega)) ?_
            refine hK179 _ _ ?_
            refine g_v (.free rfl) rfl rfl (qt_assign rfl rfl) ?_
            refine g_nil ?_
            refine gk_then (hK178 _ _ ?_)
            refine gc_seq fun K180 hK180 => ?_
            refine gc_region ?_
            refine g_v (.free rfl) rfl rfl (qt_loadS (n := 9) rfl rfl Try.underlying26 rfl (by kernel_rfl) rfl) ?_
            refine g_v (.free rfl) rfl rfl (qt_move rfl rfl) ?_
            refine g_op (.free rfl) fun K181 hK181 => ?_
            refine go_mark (ownCI _ (mkC _ _)) (n := 8) rfl rfl rfl Try.func20 rfl (by decide) rfl rfl (fun w S hS => markC_any w S _ _ _ hS (by omega) (by omega)) ?_
            refine hK181 _ _ ?_
            refine g_v (.free rfl) rfl rfl (qt_assign rfl rfl) ?_
            refine g_nil ?_
            refine gk_then (hK180 _ _ ?_)
            refine gc_seq fun K182 hK182 => ?_
            refine gc_seq fun K183 hK183 => ?_
            refine gc_region ?_
            refine g_v (.free rfl) rfl rfl (qt_move rfl rfl) ?_
            refine g_v (.free rfl) rfl rfl (qt_lss rfl rfl rfl) ?_
            refine g_splitv (.free rfl) rfl rfl (qt_move rfl rfl) (fun hs21_2 => ?_) (fun hs21_2 => ?_)
            · try simp only [decide_eq_true_eq, decide_eq_false_iff_not, Bool.not_eq_true', Bool.not_eq_false', Bool.not_eq_eq_eq_not, Bool.not_true, Bool.not_false, ne_eq, Decidable.not_not, Classical.not_not] at hs21_2
              first | (exfalso; omega) | exact absurd rfl hs21_2 | (simp at hs21_2)
            · try simp only [decide_eq_true_eq, decide_eq_false_iff_not, Bool.not_eq_true', Bool.not_eq_false', Bool.not_eq_eq_eq_not, Bool.not_true, Bool.not_false, ne_eq, Decidable.not_not, Classical.not_not] at hs21_2
              refine g_v (.held _ _ _ rfl rfl rfl) rfl rfl (qt_loadS (n := 11) rfl rfl Try.underlying26 rfl (by kernel_rfl) rfl) ?_
              refine g_v (.held _ _ _ rfl rfl rfl) rfl rfl (qt_loadS (n := 4) rfl rfl Try.underlying26 rfl (by kernel_rfl) rfl) ?_
              refine g_q (.held _ _ _ rfl rfl rfl) rfl rfl (qt_call rfl Try.func17 rfl (by decide) rfl (fun w M => eqC_refl_any w _ _ _ ((mem_ownC (n := 10) M rfl).rd) ((mem_ownC (n := 5) M rfl).rd))) ?_
              refine g_v (.held _ _ _ rfl rfl rfl) rfl rfl (qt_not rfl rfl) ?_
              refine g_v (.free rfl) rfl rfl (qt_pick_f rfl rfl rfl) ?_
              refine g_v (.free rfl) rfl rfl (qt_move rfl rfl) ?_
              refine g_v (.held _ _ _ rfl rfl rfl) rfl rfl (qt_move rfl rfl) ?_
              refine g_v (.held _ _ _ rfl rfl rfl) rfl rfl (qt_move rfl rfl) ?_
              refine g_v (.held _ _ _ rfl rfl rfl) rfl rfl (qt_neq_f rfl rfl rfl (fun h => h rfl)) ?_
              refine g_v (.free rfl) rfl rfl (qt_pick_f rfl rfl rfl) ?_
              refine g_nil ?_
              refine gk_then (hK183 _ _ ?_)
              refine gc_cond_f rfl ?_
              refine gc_skip ?_
              refine gk_then (hK182 _ _ ?_)
              refine gc_seq fun K184 hK184 => ?_
              refine gc_region ?_
              refine g_v (.free rfl) rfl rfl (qt_assign rfl rfl) ?_
              refine g_nil ?_
              refine gk_then (hK184 _ _ ?_)
              refine gc_seq fun K185 hK185 => ?_
              refine gc_region ?_
              refine g_v (.free rfl) rfl rfl (qt_loadS (n := 11) rfl rfl Try.underlying26 rfl (by kernel_rfl) rfl) ?_
              refine g_v (.free rfl) rfl rfl (qt_move rfl rfl) ?_
              refine g_op (.free rfl) fun K186 hK186 => ?_
              refine go_mark (ownCI _ (mkC _ _)) (n := 10) rfl rfl rfl Try.func20 rfl (by decide) rfl rfl (fun w S hS => markC_any w S _ _ _ hS (by omega) (by omega)) ?_
              refine hK186 _ _ ?_
              refine g_v (.free rfl) rfl rfl (qt_assign rfl rfl) ?_
              refine g_nil ?_
              refine gk_then (hK185 _ _ ?_)
              refine gc_seq fun K187 hK187 => ?_
              refine gc_region ?_
              refine g_v (.free rfl) rfl rfl (qt_assign rfl rfl) ?_
              refine g_nil ?_
              refine gk_then (hK187 _ _ ?_)
              refine gc_seq fun K188 hK188 => ?_
              refine gc_region ?_
              refine g_v (.free rfl) rfl rfl (qt_loadS (n := 11) rfl rfl Try.underlying26 rfl (by kernel_rfl) rfl) ?_
              refine g_v (.free rfl) rfl rfl (qt_move rfl rfl) ?_
              refine g_q (.free rfl) rfl rfl (qt_call rfl Try.func21 rfl (by decide) rfl (fun w M => heldC_any w _ _ _ ((mem_ownC (n := 10) M rfl).rd) (by first | assumption | omega) (by first | assumption | omega))) ?_
              refine g_v (.free rfl) rfl rfl (qt_assign rfl rfl) ?_
              refine g_nil ?_
              refine gk_then (hK188 _ _ ?_)
              refine gc_seq fun K189 hK189 => ?_
              refine gc_seq fun K190 hK190 => ?_
              refine gc_region ?_
              refine g_v (.free rfl) rfl rfl (qt_move rfl rfl) ?_
              refine g_v (.free rfl) rfl rfl (qt_lss rfl rfl rfl) ?_
              refine g_nil ?_
              refine gk_then (hK190 _ _ ?_)
              refine gc_cond rfl (fun hc12 => ?_) (fun hc12 => ?_)
              · try simp only [decide_eq_true_eq, decide_eq_false_iff_not, Bool.not_eq_true', Bool.not_eq_false', Bool.not_eq_eq_eq_not, Bool.not_true, Bool.not_false, ne_eq, Decidable.not_not, Classical.not_not] at hc12
                first | (exfalso; omega) | exact absurd rfl hc12 | (simp at hc12)
              · try simp only [decide_eq_true_eq, decide_eq_false_iff_not, Bool.not_eq_true', Bool.not_eq_false', Bool.not_eq_eq_eq_not, Bool.not_true, Bool.not_false, ne_eq, Decidable.not_not, Classical.not_not] at hc12
                refine gc_skip ?_
                refine gk_then (hK189 _ _ ?_)
                refine gc_seq fun K191 hK191 => ?_
                refine gc_seq fun K192 hK192 => ?_
                refine gc_region ?_
                refine g_v (.free rfl) rfl rfl (qt_move rfl rfl) ?_
                refine g_v (.free rfl) rfl rfl (qt_move rfl rfl) ?_
                refine g_v (.free rfl) rfl rfl (qt_neq rfl rfl rfl) ?_
                refine g_nil ?_
                refine gk_then (hK192 _ _ ?_)
                refine gc_cond rfl (fun hc13 => ?_) (fun hc13 => ?_)
                · try simp only [decide_eq_true_eq, decide_eq_false_iff_not, Bool.not_eq_true', Bool.not_eq_false', Bool.not_eq_eq_eq_not, Bool.not_true, Bool.not_false, ne_eq, Decidable.not_not, Classical.not_not] at hc13
                  first | (exfalso; omega) | exact absurd rfl hc13 | (simp at hc13)
                · try simp only [decide_eq_true_eq, decide_eq_false_iff_not, Bool.not_eq_true', Bool.not_eq_false', Bool.not_eq_eq_eq_not, Bool.not_true, Bool.not_false, ne_eq, Decidable.not_not, Classical.not_not] at hc13
                  refine gc_skip ?_
                  refine gk_then (hK191 _ _ ?_)
                  refine gc_seq fun K193 hK193 => ?_
                  try simp only [List.nil_append, List.cons_append, List.append_assoc, List.set_cons_succ, List.set_cons_zero]
                  refine ga_start _ (fun w M => M) ?_
                  refine ga_v 0 rfl (by kernel_rfl) (by kernel_rfl) (by kernel_rfl) (.free rfl) rfl rfl (qt_loadS (n := 0) rfl rfl Try.underlying39 rfl (by kernel_rfl) rfl) (fun _ _ _ h => h) ?_
                  refine ga_v 2 rfl (by kernel_rfl) (by kernel_rfl) (by kernel_rfl) (.free rfl) rfl rfl (qt_loadS (n := 1) rfl rfl Try.underlying39 rfl (by kernel_rfl) rfl) (fun _ _ _ h => h) ?_
                  refine ga_two 1 8 (by kernel_rfl) rfl rfl (.free rfl) (.free rfl) (fun K194 hK194 => ?_) (fun K194 hK194 => ?_)
                  · refine go_callC1 rfl rfl rfl Try.func29 rfl (by decide) rfl (fun w M => toC_any w _ _ (mem_rdC M R0)) ?_
                    intro ca195 cb195 cc195 cd195 ce195 cf195 cg195 ch195
                    refine hK194 _ _ (fun w M => (mem_take 14 M :)) ?_
                    refine ga_two 3 8 (by kernel_rfl) rfl rfl (.free rfl) (.free rfl) (fun K197 hK197 => ?_) (fun K197 hK197 => ?_)
                    · refine go_callC1 rfl rfl rfl Try.func29 rfl (by decide) rfl (fun w M => toC_any w _ _ (mem_rdC M R1)) ?_
                      intro ca198 cb198 cc198 cd198 ce198 cf198 cg198 ch198
                      refine hK197 _ _ (fun w M => (mem_take 14 M :)) ?_
                      refine ga_two 4 8 (by kernel_rfl) rfl rfl (.free rfl) (.free rfl) (fun K200 hK200 => ?_) (fun K200 hK200 => ?_)
                      · refine go_callCI1 rfl rfl rfl Try.func36 rfl (by decide) rfl (fun w M => himpl w _ _ ((mem_ownC (n := 14) M rfl).rd) ((mem_ownC (n := 15) M rfl).rd)) ?_
                        intro ca201 cb201 cc201 cd201 ce201 cf201 cg201 ch201
                        refine hK200 _ _ (fun w M => (mem_take 14 M :)) ?_
                        refine ga_v 5 rfl (by kernel_rfl) (by kernel_rfl) (by kernel_rfl) (.free rfl) rfl rfl (qt_move rfl rfl) (fun _ _ _ h => h) ?_
                        refine ga_v 6 rfl (by kernel_rfl) (by kernel_rfl) (by kernel_rfl) (.free rfl) rfl rfl (qt_extract rfl rfl rfl) (fun _ _ _ h => h) ?_
                        refine ga_v 7 rfl (by kernel_rfl) (by kernel_rfl) (by kernel_rfl) (.free rfl) rfl rfl (qt_extract rfl rfl rfl) (fun _ _ _ h => h) ?_
                        refine ga_op 8 (by kernel_rfl) rfl (.free rfl) fun K204 hK204 => ?_
                        refine go_alloc (z := (.agg #[.int .i64 0, .slice none 0 0, .slice none 0 0, .slice none 0 0, .slice none 0 0])) (cs := [.int .i64 0, .slice none 0 0, .slice none 0 0, .slice none 0 0, .slice none 0 0]) rfl rfl rfl (fun w => by kernel_rfl) rfl ?_
                        intro B203
                        refine hK204 _ _ (fun w M => (mem_take 14 M :)) ?_
                        refine ga_op 9 (by kernel_rfl) rfl (.free rfl) fun K205 hK205 => ?_
                        refine go_storeS (n := 17) rfl rfl rfl rfl (by kernel_rfl) rfl rfl rfl ?_
                        refine hK205 _ _ (fun w M => (mem_take 14 M :)) ?_
                        refine ga_v 10 rfl (by kernel_rfl) (by kernel_rfl) (by kernel_rfl) (.free rfl) rfl rfl (qt_assign rfl rfl) (fun _ _ _ h => h) ?_
                        refine ga_done (by kernel_rfl) ?_
                        refine gk_then (hK193 _ _ ?_)
                        refine gc_seq fun K206 hK206 => ?_
                        refine gc_seq fun K207 hK207 => ?_
                        refine gc_region ?_
                        refine g_v (.free rfl) rfl rfl (qt_loadS (n := 17) rfl rfl Try.underlying26 rfl (by kernel_rfl) rfl) ?_
                        refine g_v (.free rfl) rfl rfl (qt_loadS (n := 4) rfl rfl Try.underlying26 rfl (by kernel_rfl) rfl) ?_
                        refine g_q (.free rfl) rfl rfl (qt_call rfl Try.func17 rfl (by decide) rfl (fun w M => eqC_refl_any w _ _ _ ((mem_ownC (n := 16) M rfl).rd) ((mem_ownC (n := 5) M rfl).rd))) ?_
                        refine g_v (.free rfl) rfl rfl (qt_not rfl rfl) ?_
                        refine g_v (.free rfl) rfl rfl (qt_move rfl rfl) ?_
                        refine g_v (.held _ _ _ rfl rfl rfl) rfl rfl (qt_move rfl rfl) ?_
                        refine g_v (.held _ _ _ rfl rfl rfl) rfl rfl (qt_move rfl rfl) ?_
                        refine g_v (.held _ _ _ rfl rfl rfl) rfl rfl (qt_neq_f rfl rfl rfl (fun h => h rfl)) ?_
                        refine g_v (.free rfl) rfl rfl (qt_pick_f rfl rfl rfl) ?_
                        refine g_nil ?_
                        refine gk_then (hK207 _ _ ?_)
                        refine gc_cond_f rfl ?_
                        refine gc_skip ?_
                        refine gk_then (hK206 _ _ ?_)
                        refine gc_seq fun K208 hK208 => ?_
                        refine gc_region ?_
                        refine g_v (.free rfl) rfl rfl (qt_assign rfl rfl) ?_
                        refine g_nil ?_
                        refine gk_then (hK208 _ _ ?_)
                        refine gc_seq fun K209 hK209 => ?_
                        refine gc_region ?_
                        refine g_v (.free rfl) rfl rfl (qt_loadS (n := 11) rfl rfl Try.underlying26 rfl (by kernel_rfl) rfl) ?_
                        refine g_v (.free rfl) rfl rfl (qt_move rfl rfl) ?_
                        refine g_q (.free rfl) rfl rfl (qt_call rfl Try.func21 rfl (by decide) rfl (fun w M => heldC_any w _ _ _ ((mem_ownC (n := 10) M rfl).rd) (by first | assumption | omega) (by first | assumption | omega))) ?_
                        refine g_v (.free rfl) rfl rfl (qt_assign rfl rfl) ?_
                        refine g_nil ?_
                        refine gk_then (hK209 _ _ ?_)
                        refine gc_seq fun K210 hK210 => ?_
                        refine gc_seq fun K211 hK211 => ?_
                        refine gc_region ?_
                        refine g_v (.free rfl) rfl rfl (qt_move rfl rfl) ?_
                        refine g_v (.free rfl) rfl rfl (qt_lss rfl rfl rfl) ?_
                        refine g_nil ?_
                        refine gk_then (hK211 _ _ ?_)
                        refine gc_cond rfl (fun hc14 => ?_) (fun hc14 => ?_)
                        · try simp only [decide_eq_true_eq, decide_eq_false_iff_not, Bool.not_eq_true', Bool.not_eq_false', Bool.not_eq_eq_eq_not, Bool.not_true, Bool.not_false, ne_eq, Decidable.not_not, Classical.not_not] at hc14
                          first | (exfalso; omega) | exact absurd rfl hc14 | (simp at hc14)
                        · try simp only [decide_eq_true_eq, decide_eq_false_iff_not, Bool.not_eq_true', Bool.not_eq_false', Bool.not_eq_eq_eq_not, Bool.not_true, Bool.not_false, ne_eq, Decidable.not_not, Classical.not_not] at hc14
                          refine gc_skip ?_
                          refine gk_then (hK210 _ _ ?_)
                          refine gc_seq fun K212 hK212 => ?_
                          refine gc_seq fun K213 hK213 => ?_
                          refine gc_region ?_
                          refine g_v (.free rfl) rfl rfl (qt_move rfl rfl) ?_
                          refine g_v (.free rfl) rfl rfl (qt_move rfl rfl) ?_
                          refine g_v (.free rfl) rfl rfl (qt_neq rfl rfl rfl) ?_
                          refine g_nil ?_
                          refine gk_then (hK213 _ _ ?_)
                          refine gc_cond rfl (fun hc15 => ?_) (fun hc15 => ?_)
                          · try simp only [decide_eq_true_eq, decide_eq_false_iff_not, Bool.not_eq_true', Bool.not_eq_false', Bool.not_eq_eq_eq_not, Bool.not_true, Bool.not_false, ne_eq, Decidable.not_not, Classical.not_not] at hc15
                            first | (exfalso; omega) | exact absurd rfl hc15 | (simp at hc15)
                          · try simp only [decide_eq_true_eq, decide_eq_false_iff_not, Bool.not_eq_true', Bool.not_eq_false', Bool.not_eq_eq_eq_not, Bool.not_true, Bool.not_false, ne_eq, Decidable.not_not, Classical.not_not] at hc15
                            refine gc_skip ?_
                            refine gk_then (hK212 _ _ ?_)
                            refine gc_seq fun K214 hK214 => ?_
                            refine gc_region ?_
                            refine g_v (.free rfl) rfl rfl (qt_assign rfl rfl) ?_
                            refine g_nil ?_
                            refine gk_then (hK214 _ _ ?_)
                            refine gc_ret ?_
                            refine ret_1 rfl rfl  (fun w M => ?_)
                            exact ⟨rfl, M.1⟩
                      · refine go_alloc (z := (.agg #[.int .i64 0, .slice none 0 0, .slice none 0 0, .slice none 0 0, .slice none 0 0])) (cs := [.int .i64 0, .slice none 0 0, .slice none 0 0, .slice none 0 0, .slice none 0 0]) rfl rfl rfl (fun w => by kernel_rfl) rfl ?_
                        intro B215
                        refine hK200 _ _ (fun w M => (mem_take 14 M :)) ?_
                        refine ga_op 4 (by kernel_rfl) rfl (.free rfl) fun K218 hK218 => ?_
                        refine go_callCI1 rfl rfl rfl Try.func36 rfl (by decide) rfl (fun w M => himpl w _ _ ((mem_ownC (n := 14) M rfl).rd) ((mem_ownC (n := 15) M rfl).rd)) ?_
                        intro ca217 cb217 cc217 cd217 ce217 cf217 cg217 ch217
                        refine hK218 _ _ (fun w M => (mem_take 14 M :)) ?_
                        refine ga_v 5 rfl (by kernel_rfl) (by kernel_rfl) (by kernel_rfl) (.free rfl) rfl rfl (qt_move rfl rfl) (fun _ _ _ h => h) ?_
                        refine ga_v 6 rfl (by kernel_rfl) (by kernel_rfl) (by kernel_rfl) (.free rfl) rfl rfl (qt_extract rfl rfl rfl) (fun _ _ _ h => h) ?_
                        refine ga_v 7 rfl (by kernel_rfl) (by kernel_rfl) (by kernel_rfl) (.free rfl) rfl rfl (qt_extract rfl rfl rfl) (fun _ _ _ h => h) ?_
                        refine ga_op 9 (by kernel_rfl) rfl (.free rfl) fun K219 hK219 => ?_
                        refine go_storeS (n := 16) rfl rfl rfl rfl (by kernel_rfl) rfl rfl rfl ?_
                        refine hK219 _ _ (fun w M => (mem_take 14 M :)) ?_
                        refine ga_v 10 rfl (by kernel_rfl) (by kernel_rfl) (by kernel_rfl) (.free rfl) rfl rfl (qt_assign rfl rfl) (fun _ _ _ h => h) ?_
                        refine ga_done (by kernel_rfl) ?_
                        refine gk_then (hK193 _ _ ?_)
                        refine gc_seq fun K220 hK220 => ?_
                        refine gc_seq fun K221 hK221 => ?_
                        refine gc_region ?_
                        refine g_v (.free rfl) rfl rfl (qt_loadS (n := 16) rfl rfl Try.underlying26 rfl (by kernel_rfl) rfl) ?_
                        refine g_v (.free rfl) rfl rfl (qt_loadS (n := 4) rfl rfl Try.underlying26 rfl (by kernel_rfl) rfl) ?_
                        refine g_q (.free rfl) rfl rfl (qt_call rfl Try.func17 rfl (by decide) rfl (fun w M => eqC_refl_any w _ _ _ ((mem_ownC (n := 17) M rfl).rd) ((mem_ownC (n := 5) M rfl).rd))) ?_
                        refine g_v (.free rfl) rfl rfl (qt_not rfl rfl) ?_
                        refine g_v (.free rfl) rfl rfl (qt_move rfl rfl) ?_
                        refine g_v (.held _ _ _ rfl rfl rfl) rfl rfl (qt_move rfl rfl) ?_
                        refine g_v (.held _ _ _ rfl rfl rfl) rfl rfl (qt_move rfl rfl) ?_
                        refine g_v (.held _ _ _ rfl rfl rfl) rfl rfl (qt_neq_f rfl rfl rfl (fun h => h rfl)) ?_
                        refine g_v (.free rfl) rfl rfl (qt_pick_f rfl rfl rfl) ?_
                        refine g_nil ?_
                        refine gk_then (hK221 _ _ ?_)
                        refine gc_cond_f rfl ?_
                        refine gc_skip ?_
                        refine gk_then (hK220 _ _ ?_)
                        refine gc_seq fun K222 hK222 => ?_
                        refine gc_region ?_
                        refine g_v (.free rfl) rfl rfl (qt_assign rfl rfl) ?_
                        refine g_nil ?_
                        refine gk_then (hK222 _ _ ?_)
                        refine gc_seq fun K223 hK223 => ?_
                        refine gc_region ?_
                        refine g_v (.free rfl) rfl rfl (qt_loadS (n := 11) rfl rfl Try.underlying26 rfl (by kernel_rfl) rfl) ?_
                        refine g_v (.free rfl) rfl rfl (qt_move rfl rfl) ?_
                        refine g_q (.free rfl) rfl rfl (qt_call rfl Try.func21 rfl (by decide) rfl (fun w M => heldC_any w _ _ _ ((mem_ownC (n := 10) M rfl).rd) (by first | assumption | omega) (by first | assumption | omega))) ?_
                        refine g_v (.free rfl) rfl rfl (qt_assign rfl rfl) ?_
                        refine g_nil ?_
                        refine gk_then (hK223 _ _ ?_)
                        refine gc_seq fun K224 hK224 => ?_
                        refine gc_seq fun K225 hK225 => ?_
                        refine gc_region ?_
                        refine g_v (.free rfl) rfl rfl (qt_move rfl rfl) ?_
                        refine g_v (.free rfl) rfl rfl (qt_lss rfl rfl rfl) ?_
                        refine g_nil ?_
                        refine gk_then (hK225 _ _ ?_)
                        refine gc_cond rfl (fun hc16 => ?_) (fun hc16 => ?_)
                        · try simp only [decide_eq_true_eq, decide_eq_false_iff_not, Bool.not_eq_true', Bool.not_eq_false', Bool.not_eq_eq_eq_not, Bool.not_true, Bool.not_false, ne_eq, Decidable.not_not, Classical.not_not] at hc16
                          first | (exfalso; omega) | exact absurd rfl hc16 | (simp at hc16)
                        · try simp only [decide_eq_true_eq, decide_eq_false_iff_not, Bool.not_eq_true', Bool.not_eq_false', Bool.not_eq_eq_eq_not, Bool.not_true, Bool.not_false, ne_eq, Decidable.not_not, Classical.not_not] at hc16
                          refine gc_skip ?_
                          refine gk_then (hK224 _ _ ?_)
                          refine gc_seq fun K226 hK226 => ?_
                          refine gc_seq fun K227 hK227 => ?_
                          refine gc_region ?_
                          refine g_v (.free rfl) rfl rfl (qt_move rfl rfl) ?_
                          refine g_v (.free rfl) rfl rfl (qt_move rfl rfl) ?_
                          refine g_v (.free rfl) rfl rfl (qt_neq rfl rfl rfl) ?_
                          refine g_nil ?_
                          refine gk_then (hK227 _ _ ?_)
                          refine gc_cond rfl (fun hc17 => ?_) (fun hc17 => ?_)
                          · try simp only [decide_eq_true_eq, decide_eq_false_iff_not, Bool.not_eq_true', Bool.not_eq_false', Bool.not_eq_eq_eq_not, Bool.not_true, Bool.not_false, ne_eq, Decidable.not_not, Classical.not_not] at hc17
                            first | (exfalso; omega) | exact absurd rfl hc17 | (simp at hc17)
                          · try simp only [decide_eq_true_eq, decide_eq_false_iff_not, Bool.not_eq_true', Bool.not_eq_false', Bool.not_eq_eq_eq_not, Bool.not_true, Bool.not_false, ne_eq, Decidable.not_not, Classical.not_not] at hc17
                            refine gc_skip ?_
                            refine gk_then (hK226 _ _ ?_)
                            refine gc_seq fun K228 hK228 => ?_
                            refine gc_region ?_
                            refine g_v (.free rfl) rfl rfl (qt_assign rfl rfl) ?_
                            refine g_nil ?_
                            refine gk_then (hK228 _ _ ?_)
                            refine gc_ret ?_
                            refine ret_1 rfl rfl  (fun w M => ?_)
                            exact ⟨rfl, M.1⟩
                    · refine go_alloc (z := (.agg #[.int .i64 0, .slice none 0 0, .slice none 0 0, .slice none 0 0, .slice none 0 0])) (cs := [.int .i64 0, .slice none 0 0, .slice none 0 0, .slice none 0 0, .slice none 0 0]) rfl rfl rfl (fun w => by kernel_rfl) rfl ?_
                      intro B229
                      refine hK197 _ _ (fun w M => (mem_take 14 M :)) ?_
                      refine ga_op 3 (by kernel_rfl) rfl (.free rfl) fun K232 hK232 => ?_
                      refine go_callC1 rfl rfl rfl Try.func29 rfl (by decide) rfl (fun w M => toC_any w _ _ (mem_rdC M R1)) ?_
                      intro ca231 cb231 cc231 cd231 ce231 cf231 cg231 ch231
                      refine hK232 _ _ (fun w M => (mem_take 14 M :)) ?_
                      refine ga_op 4 (by kernel_rfl) rfl (.free rfl) fun K234 hK234 => ?_
                      refine go_callCI1 rfl rfl rfl Try.func36 rfl (by decide) rfl (fun w M => himpl w _ _ ((mem_ownC (n := 14) M rfl).rd) ((mem_ownC (n := 16) M rfl).rd)) ?_
                      intro ca233 cb233 cc233 cd233 ce233 cf233 cg233 ch233
                      refine hK234 _ _ (fun w M => (mem_take 14 M :)) ?_
                      refine ga_v 5 rfl (by kernel_rfl) (by kernel_rfl) (by kernel_rfl) (.free rfl) rfl rfl (qt_move rfl rfl) (fun _ _ _ h => h) ?_
                      refine ga_v 6 rfl (by kernel_rfl) (by kernel_rfl) (by kernel_rfl) (.free rfl) rfl rfl (qt_extract rfl rfl rfl) (fun _ _ _ h => h) ?_
                      refine ga_v 7 rfl (by kernel_rfl) (by kernel_rfl) (by kernel_rfl) (.free rfl) rfl rfl (qt_extract rfl rfl rfl) (fun _ _ _ h => h) ?_
                      refine ga_op 9 (by kernel_rfl) rfl (.free rfl) fun K235 hK235 => ?_
                      refine go_storeS (n := 15) rfl rfl rfl rfl (by kernel_rfl) rfl rfl rfl ?_
                      refine hK235 _ _ (fun w M => (mem_take 14 M :)) ?_
                      refine ga_v 10 rfl (by kernel_rfl) (by kernel_rfl) (by kernel_rfl) (.free rfl) rfl rfl (qt_assign rfl rfl) (fun _ _ _ h => h) ?_
                      refine ga_done (by kernel_rfl) ?_
                      refine gk_then (hK193 _ _ ?_)
                      refine gc_seq fun K236 hK236 => ?_
                      refine gc_seq fun K237 hK237 => ?_
                      refine gc_region ?_
                      refine g_v (.free rfl) rfl rfl (qt_loadS (n := 15) rfl rfl Try.underlying26 rfl (by kernel_rfl) rfl) ?_
                      refine g_v (.free rfl) rfl rfl (qt_loadS (n := 4) rfl rfl Try.underlying26 rfl (by kernel_rfl) rfl) ?_
                      refine g_q (.free rfl) rfl rfl (qt_call rfl Try.func17 rfl (by decide) rfl (fun w M => eqC_refl_any w _ _ _ ((mem_ownC (n := 17) M rfl).rd) ((mem_ownC (n := 5) M rfl).rd))) ?_
                      refine g_v (.free rfl) rfl rfl (qt_not rfl rfl) ?_
                      refine g_v (.free rfl) rfl rfl (qt_move rfl rfl) ?_
                      refine g_v (.held _ _ _ rfl rfl rfl) rfl rfl (qt_move rfl rfl) ?_
                      refine g_v (.held _ _ _ rfl rfl rfl) rfl rfl (qt_move rfl rfl) ?_
                      refine g_v (.held _ _ _ rfl rfl rfl) rfl rfl (qt_neq_f rfl rfl rfl (fun h => h rfl)) ?_
                      refine g_v (.free rfl) rfl rfl (qt_pick_f rfl rfl rfl) ?_
                      refine g_nil ?_
                      refine gk_then (hK237 _ _ ?_)
                      refine gc_cond_f rfl ?_
                      refine gc_skip ?_
                      refine gk_then (hK236 _ _ ?_)
                      refine gc_seq fun K238 hK238 => ?_
                      refine gc_region ?_
                      refine g_v (.free rfl) rfl rfl (qt_assign rfl rfl) ?_
                      refine g_nil ?_
                      refine gk_then (hK238 _ _ ?_)
                      refine gc_seq fun K239 hK239 => ?_
                      refine gc_region ?_
                      refine g_v (.free rfl) rfl rfl (qt_loadS (n := 11) rfl rfl Try.underlying26 rfl (by kernel_rfl) rfl) ?_
                      refine g_v (.free rfl) rfl rfl (qt_move rfl rfl) ?_
                      refine g_q (.free rfl) rfl rfl (qt_call rfl Try.func21 rfl (by decide) rfl (fun w M => heldC_any w _ _ _ ((mem_ownC (n := 10) M rfl).rd) (by first | assumption | omega) (by first | assumption | omega))) ?_
                      refine g_v (.free rfl) rfl rfl (qt_assign rfl rfl) ?_
                      refine g_nil ?_
                      refine gk_then (hK239 _ _ ?_)
                      refine gc_seq fun K240 hK240 => ?_
                      refine gc_seq fun K241 hK241 => ?_
                      refine gc_region ?_
                      refine g_v (.free rfl) rfl rfl (qt_move rfl rfl) ?_
                      refine g_v (.free rfl) rfl rfl (qt_lss rfl rfl rfl) ?_
                      refine g_nil ?_
                      refine gk_then (hK241 _ _ ?_)
                      refine gc_cond rfl (fun hc18 => ?_) (fun hc18 => ?_)
                      · try simp only [decide_eq_true_eq, decide_eq_false_iff_not, Bool.not_eq_true', Bool.not_eq_false', Bool.not_eq_eq_eq_not, Bool.not_true, Bool.not_false, ne_eq, Decidable.not_not, Classical.not_not] at hc18
                        first | (exfalso; omega) | exact absurd rfl hc18 | (simp at hc18)
                      · try simp only [decide_eq_true_eq, decide_eq_false_iff_not, Bool.not_eq_true', Bool.not_eq_false', Bool.not_eq_eq_eq_not, Bool.not_true, Bool.not_false, ne_eq, Decidable.not_not, Classical.not_not] at hc18
                        refine gc_skip ?_
                        refine gk_then (hK240 _ _ ?_)
                        refine gc_seq fun K242 hK242 => ?_
                        refine gc_seq fun K243 hK243 => ?_
                        refine gc_region ?_
                        refine g_v (.free rfl) rfl rfl (qt_move rfl rfl) ?_
                        refine g_v (.free rfl) rfl rfl (qt_move rfl rfl) ?_
                        refine g_v (.free rfl) rfl rfl (qt_neq rfl rfl rfl) ?_
                        refine g_nil ?_
                        refine gk_then (hK243 _ _ ?_)
                        refine gc_cond rfl (fun hc19 => ?_) (fun hc19 => ?_)
                        · try simp only [decide_eq_true_eq, decide_eq_false_iff_not, Bool.not_eq_true', Bool.not_eq_false', Bool.not_eq_eq_eq_not, Bool.not_true, Bool.not_false, ne_eq, Decidable.not_not, Classical.not_not] at hc19
                          first | (exfalso; omega) | exact absurd rfl hc19 | (simp at hc19)
                        · try simp only [decide_eq_true_eq, decide_eq_false_iff_not, Bool.not_eq_true', Bool.not_eq_false', Bool.not_eq_eq_eq_not, Bool.not_true, Bool.not_false, ne_eq, Decidable.not_not, Classical.not_not] at hc19
                          refine gc_skip ?_
                          refine gk_then (hK242 _ _ ?_)
                          refine gc_seq fun K244 hK244 => ?_
                          refine gc_region ?_
                          refine g_v (.free rfl) rfl rfl (qt_assign rfl rfl) ?_
                          refine g_nil ?_
                          refine gk_then (hK244 _ _ ?_)
                          refine gc_ret ?_
                          refine ret_1 rfl rfl  (fun w M => ?_)
                          exact ⟨rfl, M.1⟩
                  · refine go_alloc (z := (.agg #[.int .i64 0, .slice none 0 0, .slice none 0 0, .slice none 0 0, .slice none 0 0])) (cs := [.int .i64 0, .slice none 0 0, .slice none 0 0, .slice none 0 0, .slice none 0 0]) rfl rfl rfl (fun w => by kernel_rfl) rfl ?_
                    intro B245
                    refine hK194 _ _ (fun w M => (mem_take 14 M :)) ?_
                    refine ga_op 1 (by kernel_rfl) rfl (.free rfl) fun K248 hK248 => ?_
                    refine go_callC1 rfl rfl rfl Try.func29 rfl (by decide) rfl (fun w M => toC_any w _ _ (mem_rdC M R0)) ?_
                    intro ca247 cb247 cc247 cd247 ce247 cf247 cg247 ch247
                    refine hK248 _ _ (fun w M => (mem_take 14 M :)) ?_
                    refine ga_op 3 (by kernel_rfl) rfl (.free rfl) fun K250 hK250 => ?_
                    refine go_callC1 rfl rfl rfl Try.func29 rfl (by decide) rfl (fun w M => toC_any w _ _ (mem_rdC M R1)) ?_
                    intro ca249 cb249 cc249 cd249 ce249 cf249 cg249 ch249
                    refine hK250 _ _ (fun w M => (mem_take 14 M :)) ?_
                    refine ga_op 4 (by kernel_rfl) rfl (.free rfl) fun K252 hK252 => ?_
                    refine go_callCI1 rfl rfl rfl Try.func36 rfl (by decide) rfl (fun w M => himpl w _ _ ((mem_ownC (n := 15) M rfl).rd) ((mem_ownC (n := 16) M rfl).rd)) ?_
                    intro ca251 cb251 cc251 cd251 ce251 cf251 cg251 ch251
                    refine hK252 _ _ (fun w M => (mem_take 14 M :)) ?_
                    refine ga_v 5 rfl (by kernel_rfl) (by kernel_rfl) (by kernel_rfl) (.free rfl) rfl rfl (qt_move rfl rfl) (fun _ _ _ h => h) ?_
                    refine ga_v 6 rfl (by kernel_rfl) (by kernel_rfl) (by kernel_rfl) (.free rfl) rfl rfl (qt_extract rfl rfl rfl) (fun _ _ _ h => h) ?_
                    refine ga_v 7 rfl (by kernel_rfl) (by kernel_rfl) (by kernel_rfl) (.free rfl) rfl rfl (qt_extract rfl rfl rfl) (fun _ _ _ h => h) ?_
                    refine ga_op 9 (by kernel_rfl) rfl (.free rfl) fun K253 hK253 => ?_
                    refine go_storeS (n := 14) rfl rfl rfl rfl (by kernel_rfl) rfl rfl rfl ?_
                    refine hK253 _ _ (fun w M => (mem_take 14 M :)) ?_
                    refine ga_v 10 rfl (by kernel_rfl) (by kernel_rfl) (by kernel_rfl) (.free rfl) rfl rfl (qt_assign rfl rfl) (fun _ _ _ h => h) ?_
                    refine ga_done (by kernel_rfl) ?_
                    refine gk_then (hK193 _ _ ?_)
                    refine gc_seq fun K254 hK254 => ?_
                    refine gc_seq fun K255 hK255 => ?_
                    refine gc_region ?_
                    refine g_v (.free rfl) rfl rfl (qt_loadS (n := 14) rfl rfl Try.underlying26 rfl (by kernel_rfl) rfl) ?_
                    refine g_v (.free rfl) rfl rfl (qt_loadS (n := 4) rfl rfl Try.underlying26 rfl (by kernel_rfl) rfl) ?_
                    refine g_q (.free rfl) rfl rfl (qt_call rfl Try.func17 rfl (by decide) rfl (fun w M => eqC_refl_any w _ _ _ ((mem_ownC (n := 17) M rfl).rd) ((mem_ownC (n := 5) M rfl).rd))) ?_
                    refine g_v (.free rfl) rfl rfl (qt_not rfl rfl) ?_
                    refine g_v (.free rfl) rfl rfl (qt_move rfl rfl) ?_
                    refine g_v (.held _ _ _ rfl rfl rfl) rfl rfl (qt_move rfl rfl) ?_
                    refine g_v (.held _ _ _ rfl rfl rfl) rfl rfl (qt_move rfl rfl) ?_
                    refine g_v (.held _ _ _ rfl rfl rfl) rfl rfl (qt_neq_f rfl rfl rfl (fun h => h rfl)) ?_
                    refine g_v (.free rfl) rfl rfl (qt_pick_f rfl rfl rfl) ?_
                    refine g_nil ?_
                    refine gk_then (hK255 _ _ ?_)
                    refine gc_cond_f rfl ?_
                    refine gc_skip ?_
                    refine gk_then (hK254 _ _ ?_)
                    refine gc_seq fun K256 hK256 => ?_
                    refine gc_region ?_
                    refine g_v (.free rfl) rfl rfl (qt_assign rfl rfl) ?_
                    refine g_nil ?_
                    refine gk_then (hK256 _ _ ?_)
                    refine gc_seq fun K257 hK257 => ?_
                    refine gc_region ?_
                    refine g_v (.free rfl) rfl rfl (qt_loadS (n := 11) rfl rfl Try.underlying26 rfl (by kernel_rfl) rfl) ?_
                    refine g_v (.free rfl) rfl rfl (qt_move rfl rfl) ?_
                    refine g_q (.free rfl) rfl rfl (qt_call rfl Try.func21 rfl (by decide) rfl (fun w M => heldC_any w _ _ _ ((mem_ownC (n := 10) M rfl).rd) (by first | assumption | omega) (by first | assumption | omega))) ?_
                    refine g_v (.free rfl) rfl rfl (qt_assign rfl rfl) ?_
                    refine g_nil ?_
                    refine gk_then (hK257 _ _ ?_)
                    refine gc_seq fun K258 hK258 => ?_
                    refine gc_seq fun K259 hK259 => ?_
                    refine gc_region ?_
                    refine g_v (.free rfl) rfl rfl (qt_move rfl rfl) ?_
                    refine g_v (.free rfl) rfl rfl (qt_lss rfl rfl rfl) ?_
                    refine g_nil ?_
                    refine gk_then (hK259 _ _ ?_)
                    refine gc_cond rfl (fun hc20 => ?_) (fun hc20 => ?_)
                    · try simp only [decide_eq_true_eq, decide_eq_false_iff_not, Bool.not_eq_true', Bool.not_eq_false', Bool.not_eq_eq_eq_not, Bool.not_true, Bool.not_false, ne_eq, Decidable.not_not, Classical.not_not] at hc20
                      first | (exfalso; omega) | exact absurd rfl hc20 | (simp at hc20)
                    · try simp only [decide_eq_true_eq, decide_eq_false_iff_not, Bool.not_eq_true', Bool.not_eq_false', Bool.not_eq_eq_eq_not, Bool.not_true, Bool.not_false, ne_eq, Decidable.not_not, Classical.not_not] at hc20
                      refine gc_skip ?_
                      refine gk_then (hK258 _ _ ?_)
                      refine gc_seq fun K260 hK260 => ?_
                      refine gc_seq fun K261 hK261 => ?_
                      refine gc_region ?_
                      refine g_v (.free rfl) rfl rfl (qt_move rfl rfl) ?_
                      refine g_v (.free rfl) rfl rfl (qt_move rfl rfl) ?_
                      refine g_v (.free rfl) rfl rfl (qt_neq rfl rfl rfl) ?_
                      refine g_nil ?_
                      refine gk_then (hK261 _ _ ?_)
                      refine gc_cond rfl (fun hc21 => ?_) (fun hc21 => ?_)
                      · try simp only [decide_eq_true_eq, decide_eq_false_iff_not, Bool.not_eq_true', Bool.not_eq_false', Bool.not_eq_eq_eq_not, Bool.not_true, Bool.not_false, ne_eq, Decidable.not_not, Classical.not_not] at hc21
                        first | (exfalso; omega) | exact absurd rfl hc21 | (simp at hc21)
                      · try simp only [decide_eq_true_eq, decide_eq_false_iff_not, Bool.not_eq_true', Bool.not_eq_false', Bool.not_eq_eq_eq_not, Bool.not_true, Bool.not_false, ne_eq, Decidable.not_not, Classical.not_not] at hc21
                        refine gc_skip ?_
                        refine gk_then (hK260 _ _ ?_)
                        refine gc_seq fun K262 hK262 => ?_
                        refine gc_region ?_
                        refine g_v (.free rfl) rfl rfl (qt_assign rfl rfl) ?_
                        refine g_nil ?_
                        refine gk_then (hK262 _ _ ?_)
                        refine gc_ret ?_
                        refine ret_1 rfl rfl  (fun w M => ?_)
                        exact ⟨rfl, M.1⟩
        · refine go_alloc (z := (.agg #[.int .i64 0, .slice none 0 0, .slice none 0 0, .slice none 0 0, .slice none 0 0])) (cs := [.int .i64 0, .slice none 0 0, .slice none 0 0, .slice none 0 0, .slice none 0 0]) rfl rfl rfl (fun w => by kernel_rfl) rfl ?_
          intro B263
          refine hK17 _ _ (fun w M => (mem_take 2 M :)) ?_
          refine ga_op 3 (by kernel_rfl) rfl (.free rfl) fun K266 hK266 => ?_
          refine go_callC1 rfl rfl rfl Try.func29 rfl (by decide) rfl (fun w M => toC_any w _ _ (mem_rdC M R1)) ?_
          intro ca265 cb265 cc265 cd265 ce265 cf265 cg265 ch265
          refine hK266 _ _ (fun w M => (mem_take 2 M :)) ?_
          refine ga_op 4 (by kernel_rfl) rfl (.free rfl) fun K268 hK268 => ?_
          refine go_callCI1 rfl rfl rfl Try.func35 rfl (by decide) rfl (fun w M => hspec w _ _ ((mem_ownC (n := 2) M rfl).rd) ((mem_ownC (n := 4) M rfl).rd)) ?_
          intro ca267 cb267 cc267 cd267 ce267 cf267 cg267 ch267
          refine hK268 _ _ (fun w M => (mem_take 2 M :)) ?_
          refine ga_v 5 rfl (by kernel_rfl) (by kernel_rfl) (by kernel_rfl) (.free rfl) rfl rfl (qt_move rfl rfl) (fun _ _ _ h => h) ?_
          refine ga_v 6 rfl (by kernel_rfl) (by kernel_rfl) (by kernel_rfl) (.free rfl) rfl rfl (qt_extract rfl rfl rfl) (fun _ _ _ h => h) ?_
          refine ga_v 7 rfl (by kernel_rfl) (by kernel_rfl) (by kernel_rfl) (.free rfl) rfl rfl (qt_extract rfl rfl rfl) (fun _ _ _ h => h) ?_
          refine ga_op 9 (by kernel_rfl) rfl (.free rfl) fun K269 hK269 => ?_
          refine go_storeS (n := 3) rfl rfl rfl rfl (by kernel_rfl) rfl rfl rfl ?_
          refine hK269 _ _ (fun w M => (mem_take 2 M :)) ?_
          refine ga_v 10 rfl (by kernel_rfl) (by kernel_rfl) (by kernel_rfl) (.free rfl) rfl rfl (qt_assign rfl rfl) (fun _ _ _ h => h) ?_
          refine ga_done (by kernel_rfl) ?_
          refine gk_then (hK13 _ _ ?_)
          refine gc_seq fun K270 hK270 => ?_
          refine gc_region ?_
          refine g_v (.free rfl) rfl rfl (qt_loadS (n := 0) rfl rfl Try.underlying39 rfl (by kernel_rfl) rfl) ?_
          refine g_op (.free rfl) fun K272 hK272 => ?_
          refine go_callC1 rfl rfl rfl Try.func29 rfl (by decide) rfl (fun w M => toC_any w _ _ (mem_rdC M R0)) ?_
          intro ca271 cb271 cc271 cd271 ce271 cf271 cg271 ch271
          refine hK272 _ _ ?_
          refine g_op (.free rfl) fun K274 hK274 => ?_
          refine go_alloc (z := (.agg #[.int .i64 0, .slice none 0 0, .slice none 0 0, .slice none 0 0, .slice none 0 0])) (cs := [.int .i64 0, .slice none 0 0, .slice none 0 0, .slice none 0 0, .slice none 0 0]) rfl rfl rfl (fun w => by kernel_rfl) rfl ?_
          intro B273
          refine hK274 _ _ ?_
          refine g_op (.free rfl) fun K275 hK275 => ?_
          refine go_storeS (n := 7) rfl rfl rfl rfl (by kernel_rfl) rfl rfl rfl ?_
          refine hK275 _ _ ?_
          refine g_nil ?_
          refine gk_then (hK270 _ _ ?_)
          refine gc_seq fun K276 hK276 => ?_
          refine gc_region ?_
          refine g_v (.free rfl) rfl rfl (qt_loadS (n := 1) rfl rfl Try.underlying39 rfl (by kernel_rfl) rfl) ?_
          refine g_op (.free rfl) fun K278 hK278 => ?_
          refine go_callC1 rfl rfl rfl Try.func29 rfl (by decide) rfl (fun w M => toC_any w _ _ (mem_rdC M R1)) ?_
          intro ca277 cb277 cc277 cd277 ce277 cf277 cg277 ch277
          refine hK278 _ _ ?_
          refine g_op (.free rfl) fun K280 hK280 => ?_
          refine go_alloc (z := (.agg #[.int .i64 0, .slice none 0 0, .slice none 0 0, .slice none 0 0, .slice none 0 0])) (cs := [.int .i64 0, .slice none 0 0, .slice none 0 0, .slice none 0 0, .slice none 0 0]) rfl rfl rfl (fun w => by kernel_rfl) rfl ?_
          intro B279
          refine hK280 _ _ ?_
          refine g_op (.free rfl) fun K281 hK281 => ?_
          refine go_storeS (n := 9) rfl rfl rfl rfl (by kernel_rfl) rfl rfl rfl ?_
          refine hK281 _ _ ?_
          refine g_nil ?_
          refine gk_then (hK276 _ _ ?_)
          refine gc_seq fun K282 hK282 => ?_
          refine gc_region ?_
          refine g_v (.free rfl) rfl rfl (qt_loadS (n := 7) rfl rfl Try.underlying26 rfl (by kernel_rfl) rfl) ?_
          refine g_v (.free rfl) rfl rfl (qt_loadS (n := 9) rfl rfl Try.underlying26 rfl (by kernel_rfl) rfl) ?_
          refine g_op (.free rfl) fun K284 hK284 => ?_
          refine go_callCI1 rfl rfl rfl Try.func36 rfl (by decide) rfl (fun w M => himpl w _ _ ((mem_ownC (n := 6) M rfl).rd) ((mem_ownC (n := 8) M rfl).rd)) ?_
          intro ca283 cb283 cc283 cd283 ce283 cf283 cg283 ch283
          refine hK284 _ _ ?_
          refine g_v (.free rfl) rfl rfl (qt_move rfl rfl) ?_
          refine g_v (.free rfl) rfl rfl (qt_extract rfl rfl rfl) ?_
          refine g_v (.free rfl) rfl rfl (qt_extract rfl rfl rfl) ?_
          refine g_op (.free rfl) fun K286 hK286 => ?_
          refine go_alloc (z := (.agg #[.int .i64 0, .slice none 0 0, .slice none 0 0, .slice none 0 0, .slice none 0 0])) (cs := [.int .i64 0, .slice none 0 0, .slice none 0 0, .slice none 0 0, .slice none 0 0]) rfl rfl rfl (fun w => by kernel_rfl) rfl ?_
          intro B285
          refine hK286 _ _ ?_
          refine g_op (.free rfl) fun K287 hK287 => ?_
          refine go_storeS (n := 11) rfl rfl rfl rfl (by kernel_rfl) rfl rfl rfl ?_
          refine hK287 _ _ ?_
          refine g_v (.free rfl) rfl rfl (qt_assign rfl rfl) ?_
          refine g_nil ?_
          refine gk_then (hK282 _ _ ?_)
          refine gc_seq fun K288 hK288 => ?_
          refine gc_seq fun K289 hK289 => ?_
          refine gc_region ?_
          refine g_v (.free rfl) rfl rfl (qt_loadS (n := 11) rfl rfl Try.underlying26 rfl (by kernel_rfl) rfl) ?_
          refine g_v (.free rfl) rfl rfl (qt_loadS (n := 3) rfl rfl Try.underlying26 rfl (by kernel_rfl) rfl) ?_
          refine g_q (.free rfl) rfl rfl (qt_call rfl Try.func17 rfl (by decide) rfl (fun w M => eqC_refl_any w _ _ _ ((mem_ownC (n := 10) M rfl).rd) ((mem_ownC (n := 5) M rfl).rd))) ?_
          refine g_v (.free rfl) rfl rfl (qt_not rfl rfl) ?_
          refine g_v (.free rfl) rfl rfl (qt_move rfl rfl) ?_
          refine g_v (.held _ _ _ rfl rfl rfl) rfl rfl (qt_move rfl rfl) ?_
          refine g_v (.held _ _ _ rfl rfl rfl) rfl rfl (qt_move rfl rfl) ?_
          refine g_v (.held _ _ _ rfl rfl rfl) rfl rfl (qt_neq_f rfl rfl rfl (fun h => h rfl)) ?_
          refine g_v (.free rfl) rfl rfl (qt_pick_f rfl rfl rfl) ?_
          refine g_nil ?_
          refine gk_then (hK289 _ _ ?_)
          refine gc_cond_f rfl ?_
          refine gc_skip ?_
          refine gk_then (hK288 _ _ ?_)
          refine gc_seq fun K290 hK290 => ?_
          refine gc_seq fun K291 hK291 => ?_
          try simp only [List.nil_append, List.cons_append, List.append_assoc, List.set_cons_succ, List.set_cons_zero]
          refine ga_start _ (fun w M => M) ?_
          refine ga_v 0 rfl (by kernel_rfl) (by kernel_rfl) (by kernel_rfl) (.free rfl) rfl rfl (qt_loadS (n := 7) rfl rfl Try.underlying26 rfl (by kernel_rfl) rfl) (fun _ _ _ h => h) ?_
          refine ga_v 1 rfl (by kernel_rfl) (by kernel_rfl) (by kernel_rfl) (.free rfl) rfl rfl (qt_loadS (n := 0) rfl rfl Try.underlying39 rfl (by kernel_rfl) rfl) (fun _ _ _ h => h) ?_
          refine ga_op 2 (by kernel_rfl) rfl (.free rfl) fun K293 hK293 => ?_
          refine go_callC1 rfl rfl rfl Try.func29 rfl (by decide) rfl (fun w M => toC_any w _ _ (mem_rdC M R0)) ?_
          intro ca292 cb292 cc292 cd292 ce292 cf292 cg292 ch292
          refine hK293 _ _ (fun w M => (mem_take 12 M :)) ?_
          refine ga_op 3 (by kernel_rfl) rfl (.free rfl) fun K294 hK294 => ?_
          refine go_q rfl rfl (qt_call rfl Try.func17 rfl (by decide) rfl (fun w M => eqC_refl_any w _ _ _ ((mem_ownC (n := 6) M rfl).rd) ((mem_ownC (n := 12) M rfl).rd))) ?_
          refine hK294 _ _ (fun w M => (mem_take 12 M :)) ?_
          refine ga_v 4 rfl (by kernel_rfl) (by kernel_rfl) (by kernel_rfl) (.free rfl) rfl rfl (qt_not rfl rfl) (fun _ _ _ h => h) ?_
          refine ga_done (by kernel_rfl) ?_
          refine gk_then (hK291 _ _ ?_)
          refine gc_cond_f rfl ?_
          refine gc_skip ?_
          refine gk_then (hK290 _ _ ?_)
          refine gc_seq fun K295 hK295 => ?_
          refine gc_seq fun K296 hK296 => ?_
          try simp only [List.nil_append, List.cons_append, List.append_assoc, List.set_cons_succ, List.set_cons_zero]
          refine ga_start _ (fun w M => M) ?_
          refine ga_v 0 rfl (by kernel_rfl) (by kernel_rfl) (by kernel_rfl) (.free rfl) rfl rfl (qt_loadS (n := 9) rfl rfl Try.underlying26 rfl (by kernel_rfl) rfl) (fun _ _ _ h => h) ?_
          refine ga_v 1 rfl (by kernel_rfl) (by kernel_rfl) (by kernel_rfl) (.free rfl) rfl rfl (qt_loadS (n := 1) rfl rfl Try.underlying39 rfl (by kernel_rfl) rfl) (fun _ _ _ h => h) ?_
          refine ga_op 2 (by kernel_rfl) rfl (.free rfl) fun K298 hK298 => ?_
          refine go_callC1 rfl rfl rfl Try.func29 rfl (by decide) rfl (fun w M => toC_any w _ _ (mem_rdC M R1)) ?_
          intro ca297 cb297 cc297 cd297 ce297 cf297 cg297 ch297
          refine hK298 _ _ (fun w M => (mem_take 13 M :)) ?_
          refine ga_op 3 (by kernel_rfl) rfl (.free rfl) fun K299 hK299 => ?_
          refine go_q rfl rfl (qt_call rfl Try.func17 rfl (by decide) rfl (fun w M => eqC_refl_any w _ _ _ ((mem_ownC (n := 8) M rfl).rd) ((mem_ownC (n := 13) M rfl).rd))) ?_
          refine hK299 _ _ (fun w M => (mem_take 13 M :)) ?_
          refine ga_v 4 rfl (by kernel_rfl) (by kernel_rfl) (by kernel_rfl) (.free rfl) rfl rfl (qt_not rfl rfl) (fun _ _ _ h => h) ?_
          refine ga_done (by kernel_rfl) ?_
          refine gk_then (hK296 _ _ ?_)
          refine gc_cond_f rfl ?_
          refine gc_skip ?_
          refine gk_then (hK295 _ _ ?_)
          refine gc_seq fun K300 hK300 => ?_
          refine gc_region ?_
          refine g_v (.free rfl) rfl rfl (qt_assign rfl rfl) ?_
          refine g_nil ?_
          refine gk_then (hK300 _ _ ?_)
          refine gc_seq fun K301 hK301 => ?_
          refine gc_region ?_
          refine g_v (.free rfl) rfl rfl (qt_loadS (n := 7) rfl rfl Try.underlying26 rfl (by kernel_rfl) rfl) ?_
          refine g_v (.free rfl) rfl rfl (qt_move rfl rfl) ?_
          refine g_op (.free rfl) fun K302 hK302 => ?_
          refine go_mark (ownCI _ (mkC _ _)) (n := 6) rfl rfl rfl Try.func20 rfl (by decide) rfl rfl (fun w S hS => markC_any w S _ _ _ hS (by omega) (by omega)) ?_
          refine hK302 _ _ ?_
          refine g_v (.free rfl) rfl rfl (qt_assign rfl rfl) ?_
          refine g_nil ?_
          refine gk_then (hK301 _ _ ?_)
          refine gc_seq fun K303 hK303 => ?_
          refine gc_region ?_
          refine g_v (.free rfl) rfl rfl (qt_loadS (n := 9) rfl rfl Try.underlying26 rfl (by kernel_rfl) rfl) ?_
          refine g_v (.free rfl) rfl rfl (qt_move rfl rfl) ?_
          refine g_op (.free rfl) fun K304 hK304 => ?_
          refine go_mark (ownCI _ (mkC _ _)) (n := 8) rfl rfl rfl Try.func20 rfl (by decide) rfl rfl (fun w S hS => markC_any w S _ _ _ hS (by omega) (by omega)) ?_
          refine hK304 _ _ ?_
          refine g_v (.free rfl) rfl rfl (qt_assign rfl rfl) ?_
          refine g_nil ?_
          refine gk_then (hK303 _ _ ?_)
          refine gc_seq fun K305 hK305 => ?_
          refine gc_seq fun K306 hK306 => ?_
          refine gc_region ?_
          refine g_v (.free rfl) rfl rfl (qt_move rfl rfl) ?_
          refine g_v (.free rfl) rfl rfl (qt_lss rfl rfl rfl) ?_
          refine g_splitv (.free rfl) rfl rfl (qt_move rfl rfl) (fun hs21_2 => ?_) (fun hs21_2 => ?_)
          · try simp only [decide_eq_true_eq, decide_eq_false_iff_not, Bool.not_eq_true', Bool.not_eq_false', Bool.not_eq_eq_eq_not, Bool.not_true, Bool.not_false, ne_eq, Decidable.not_not, Classical.not_not] at hs21_2
            first | (exfalso; omega) | exact absurd rfl hs21_2 | (simp at hs21_2)
          · try simp only [decide_eq_true_eq, decide_eq_false_iff_not, Bool.not_eq_true', Bool.not_eq_false', Bool.not_eq_eq_eq_not, Bool.not_true, Bool.not_false, ne_eq, Decidable.not_not, Classical.not_not] at hs21_2
            refine g_v (.held _ _ _ rfl rfl rfl) rfl rfl (qt_loadS (n := 11) rfl rfl Try.underlying26 rfl (by kernel_rfl) rfl) ?_
            refine g_v (.held _ _ _ rfl rfl rfl) rfl rfl (qt_loadS (n := 3) rfl rfl Try.underlying26 rfl (by kernel_rfl) rfl) ?_
            refine g_q (.held _ _ _ rfl rfl rfl) rfl rfl (qt_call rfl Try.func17 rfl (by decide) rfl (fun w M => eqC_refl_any w _ _ _ ((mem_ownC (n := 10) M rfl).rd) ((mem_ownC (n := 5) M rfl).rd))) ?_
            refine g_v (.held _ _ _ rfl rfl rfl) rfl rfl (qt_not rfl rfl) ?_
            refine g_v (.free rfl) rfl rfl (qt_pick_f rfl rfl rfl) ?_
            refine g_v (.free rfl) rfl rfl (qt_move rfl rfl) ?_
            refine g_v (.held _ _ _ rfl rfl rfl) rfl rfl (qt_move rfl rfl) ?_
            refine g_v (.held _ _ _ rfl rfl rfl) rfl rfl (qt_move rfl rfl) ?_
            refine g_v (.held _ _ _ rfl rfl rfl) rfl rfl (qt_neq_f rfl rfl rfl (fun h => h rfl)) ?_
            refine g_v (.free rfl) rfl rfl (qt_pick_f rfl rfl rfl) ?_
            refine g_nil ?_
            refine gk_then (hK306 _ _ ?_)
            refine gc_cond_f rfl ?_
            refine gc_skip ?_
            refine gk_then (hK305 _ _ ?_)
            refine gc_seq fun K307 hK307 => ?_
            refine gc_region ?_
            refine g_v (.free rfl) rfl rfl (qt_assign rfl rfl) ?_
            refine g_nil ?_
            refine gk_then (hK307 _ _ ?_)
            refine gc_seq fun K308 hK308 => ?_
            refine gc_region ?_
            refine g_v (.free rfl) rfl rfl (qt_loadS (n := 11) rfl rfl Try.underlying26 rfl (by kernel_rfl) rfl) ?_
            refine g_v (.free rfl) rfl rfl (qt_move rfl rfl) ?_
            refine g_op (.free rfl) fun K309 hK309 => ?_
            refine go_mark (ownCI _ (mkC _ _)) (n := 10) rfl rfl rfl Try.func20 rfl (by decide) rfl rfl (fun w S hS => markC_any w S _ _ _ hS (by omega) (by omega)) ?_
            refine hK309 _ _ ?_
            refine g_v (.free rfl) rfl rfl (qt_assign rfl rfl) ?_
            refine g_nil ?_
            refine gk_then (hK308 _ _ ?_)
            refine gc_seq fun K310 hK310 => ?_
            refine gc_region ?_
            refine g_v (.free rfl) rfl rfl (qt_assign rfl rfl) ?_
            refine g_nil ?_
            refine gk_then (hK310 _ _ ?_)
            refine gc_seq fun K311 hK311 => ?_
            refine gc_region ?_
            refine g_v (.free rfl) rfl rfl (qt_loadS (n := 11) rfl rfl Try.underlying26 rfl (by kernel_rfl) rfl) ?_
            refine g_v (.free rfl) rfl rfl (qt_move rfl rfl) ?_
            refine g_q (.free rfl) rfl rfl (qt_call rfl Try.func21 rfl (by decide) rfl (fun w M => heldC_any w _ _ _ ((mem_ownC (n := 10) M rfl).rd) (by first | assumption | omega) (by first | assumption | omega))) ?_
            refine g_v (.free rfl) rfl rfl (qt_assign rfl rfl) ?_
            refine g_nil ?_
            refine gk_then (hK311 _ _ ?_)
            refine gc_seq fun K312 hK312 => ?_
            refine gc_seq fun K313 hK313 => ?_
            refine gc_region ?_
            refine g_v (.free rfl) rfl rfl (qt_move rfl rfl) ?_
            refine g_v (.free rfl) rfl rfl (qt_lss rfl rfl rfl) ?_
            refine g_nil ?_
            refine gk_then (hK313 _ _ ?_)
            refine gc_cond rfl (fun hc22 => ?_) (fun hc22 => ?_)
            · try simp only [decide_eq_true_eq, decide_eq_false_iff_not, Bool.not_eq_true', Bool.not_eq_false', Bool.not_eq_eq_eq_not, Bool.not_true, Bool.not_false, ne_eq, Decidable.not_not, Classical.not_not] at hc22
              first | (exfalso; omega) | exact absurd rfl hc22 | (simp at hc22)
            · try simp only [decide_eq_true_eq, decide_eq_false_iff_not, Bool.not_eq_true', Bool.not_eq_false', Bool.not_eq_eq_eq_not, Bool.not_true, Bool.not_false, ne_eq, Decidable.not_not, Classical.not_not] at hc22
              refine gc_skip ?_
              refine gk_then (hK312 _ _ ?_)
              refine gc_seq fun K314 hK314 => ?_
              refine gc_seq fun K315 hK315 => ?_
              refine gc_region ?_
              refine g_v (.free rfl) rfl rfl (qt_move rfl rfl) ?_
              refine g_v (.free rfl) rfl rfl (qt_move rfl rfl) ?_
              refine g_v (.free rfl) rfl rfl (qt_neq rfl rfl rfl) ?_
              refine g_nil ?_
              refine gk_then (hK315 _ _ ?_)
              refine gc_cond rfl (fun hc23 => ?_) (fun hc23 => ?_)
              · try simp only [decide_eq_true_eq, decide_eq_false_iff_not, Bool.not_eq_true', Bool.not_eq_false', Bool.not_eq_eq_eq_not, Bool.not_true, Bool.not_false, ne_eq, Decidable.not_not, Classical.not_not] at hc23
                first | (exfalso; omega) | exact absurd rfl hc23 | (simp at hc23)
              · try simp only [decide_eq_true_eq, decide_eq_false_iff_not, Bool.not_eq_true', Bool.not_eq_false', Bool.not_eq_eq_eq_not, Bool.not_true, Bool.not_false, ne_eq, Decidable.not_not, Classical.not_not] at hc23
                refine gc_skip ?_
                refine gk_then (hK314 _ _ ?_)
                refine gc_seq fun K316 hK316 => ?_
                try simp only [List.nil_append, List.cons_append, List.append_assoc, List.set_cons_succ, List.set_cons_zero]
                refine ga_start _ (fun w M => M) ?_
                refine ga_v 0 rfl (by kernel_rfl) (by kernel_rfl) (by kernel_rfl) (.free rfl) rfl rfl (qt_loadS (n := 0) rfl rfl Try.underlying39 rfl (by kernel_rfl) rfl) (fun _ _ _ h => h) ?_
                refine ga_v 2 rfl (by kernel_rfl) (by kernel_rfl) (by kernel_rfl) (.free rfl) rfl rfl (qt_loadS (n := 1) rfl rfl Try.underlying39 rfl (by kernel_rfl) rfl) (fun _ _ _ h => h) ?_
                refine ga_two 1 8 (by kernel_rfl) rfl rfl (.free rfl) (.free rfl) (fun K317 hK317 => ?_) (fun K317 hK317 => ?_)
                · refine go_callC1 rfl rfl rfl Try.func29 rfl (by decide) rfl (fun w M => toC_any w _ _ (mem_rdC M R0)) ?_
                  intro ca318 cb318 cc318 cd318 ce318 cf318 cg318 ch318
                  refine hK317 _ _ (fun w M => (mem_take 14 M :)) ?_
                  refine ga_two 3 8 (by kernel_rfl) rfl rfl (.free rfl) (.free rfl) (fun K320 hK320 => ?_) (fun K320 hK320 => ?_)
                  · refine go_callC1 rfl rfl rfl Try.func29 rfl (by decide) rfl (fun w M => toC_any w _ _ (mem_rdC M R1)) ?_
                    intro ca321 cb321 cc321 cd321 ce321 cf321 cg321 ch321
                    refine hK320 _ _ (fun w M => (mem_take 14 M :)) ?_
                    refine ga_two 4 8 (by kernel_rfl) rfl rfl (.free rfl) (.free rfl) (fun K323 hK323 => ?_) (fun K323 hK323 => ?_)
                    · refine go_callCI1 rfl rfl rfl Try.func36 rfl (by decide) rfl (fun w M => himpl w _ _ ((mem_ownC (n := 14) M rfl).rd) ((mem_ownC (n := 15) M rfl).rd)) ?_
                      intro ca324 cb324 cc324 cd324 ce324 cf324 cg324 ch324
                      refine hK323 _ _ (fun w M => (mem_take 14 M :)) ?_
                      refine ga_v 5 rfl (by kernel_rfl) (by kernel_rfl) (by kernel_rfl) (.free rfl) rfl rfl (qt_move rfl rfl) (fun _ _ _ h => h) ?_
                      refine ga_v 6 rfl (by kernel_rfl) (by kernel_rfl) (by kernel_rfl) (.free rfl) rfl rfl (qt_extract rfl rfl rfl) (fun _ _ _ h => h) ?_
                      refine ga_v 7 rfl (by kernel_rfl) (by kernel_rfl) (by kernel_rfl) (.free rfl) rfl rfl (qt_extract rfl rfl rfl) (fun _ _ _ h => h) ?_
                      refine ga_op 8 (by kernel_rfl) rfl (.free rfl) fun K327 hK327 => ?_
                      refine go_alloc (z := (.agg #[.int .i64 0, .slice none 0 0, .slice none 0 0, .slice none 0 0, .slice none 0 0])) (cs := [.int .i64 0, .slice none 0 0, .slice none 0 0, .slice none 0 0, .slice none 0 0]) rfl rfl rfl (fun w => by kernel_rfl) rfl ?_
                      intro B326
                      refine hK327 _ _ (fun w M => (mem_take 14 M :)) ?_
                      refine ga_op 9 (by kernel_rfl) rfl (.free rfl) fun K328 hK328 => ?_
                      refine go_storeS (n := 17) rfl rfl rfl rfl (by kernel_rfl) rfl rfl rfl ?_
                      refine hK328 _ _ (fun w M => (mem_take 14 M :)) ?_
                      refine ga_v 10 rfl (by kernel_rfl) (by kernel_rfl) (by kernel_rfl) (.free rfl) rfl rfl (qt_assign rfl rfl) (fun _ _ _ h => h) ?_
                      refine ga_done (by kernel_rfl) ?_
                      refine gk_then (hK316 _ _ ?_)
                      refine gc_seq fun K329 hK329 => ?_
                      refine gc_seq fun K330 hK330 => ?_
                      refine gc_region ?_
                      refine g_v (.free rfl) rfl rfl (qt_loadS (n := 17) rfl rfl Try.underlying26 rfl (by kernel_rfl) rfl) ?_
                      refine g_v (.free rfl) rfl rfl (qt_loadS (n := 3) rfl rfl Try.underlying26 rfl (by kernel_rfl) rfl) ?_
                      refine g_q (.free rfl) rfl rfl (qt_call rfl Try.func17 rfl (by decide) rfl (fun w M => eqC_refl_any w _ _ _ ((mem_ownC (n := 16) M rfl).rd) ((mem_ownC (n := 5) M rfl).rd))) ?_
                      refine g_v (.free rfl) rfl rfl (qt_not rfl rfl) ?_
                      refine g_v (.free rfl) rfl rfl (qt_move rfl rfl) ?_
                      refine g_v (.held _ _ _ rfl rfl rfl) rfl rfl (qt_move rfl rfl) ?_
                      refine g_v (.held _ _ _ rfl rfl rfl) rfl rfl (qt_move rfl rfl) ?_
                      refine g_v (.held _ _ _ rfl rfl rfl) rfl rfl (qt_neq_f rfl rfl rfl (fun h => h rfl)) ?_
                      refine g_v (.free rfl) rfl rfl (qt_pick_f rfl rfl rfl) ?_
                      refine g_nil ?_
                      refine gk_then (hK330 _ _ ?_)
                      refine gc_cond_f rfl ?_
                      refine gc_skip ?_
                      refine gk_then (hK329 _ _ ?_)
                      refine gc_seq fun K331 hK331 => ?_
                      refine gc_region ?_
                      refine g_v (.free rfl) rfl rfl (qt_assign rfl rfl) ?_
                      refine g_nil ?_
                      refine gk_then (hK331 _ _ ?_)
                      refine gc_seq fun K332 hK332 => ?_
                      refine gc_region ?_
                      refine g_v (.free rfl) rfl rfl (qt_loadS (n := 11) rfl rfl Try.underlying26 rfl (by kernel_rfl) rfl) ?_
                      refine g_v (.free rfl) rfl rfl (qt_move rfl rfl) ?_
                      refine g_q (.free rfl) rfl rfl (qt_call rfl Try.func21 rfl (by decide) rfl (fun w M => heldC_any w _ _ _ ((mem_ownC (n := 10) M rfl).rd) (by first | assumption | omega) (by first | assumption | omega))) ?_
                      refine g_v (.free rfl) rfl rfl (qt_assign rfl rfl) ?_
                      refine g_nil ?_
                      refine gk_then (hK332 _ _ ?_)
                      refine gc_seq fun K333 hK333 => ?_
                      refine gc_seq fun K334 hK334 => ?_
                      refine gc_region ?_
                      refine g_v (.free rfl) rfl rfl (qt_move rfl rfl) ?_
                      refine g_v (.free rfl) rfl rfl (qt_lss rfl rfl rfl) ?_
                      refine g_nil ?_
                      refine gk_then (hK334 _ _ ?_)
                      refine gc_cond rfl (fun hc24 => ?_) (fun hc24 => ?_)
                      · try simp only [decide_eq_true_eq, decide_eq_false_iff_not, Bool.not_eq_true', Bool.not_eq_false', Bool.not_eq_eq_eq_not, Bool.not_true, Bool.not_false, ne_eq, Decidable.not_not, Classical.not_not] at hc24
                        first | (exfalso; omega) | exact absurd rfl hc24 | (simp at hc24)
                      · try simp only [decide_eq_true_eq, decide_eq_false_iff_not, Bool.not_eq_true', Bool.not_eq_false', Bool.not_eq_eq_eq_not, Bool.not_true, Bool.not_false, ne_eq, Decidable.not_not, Classical.not_not] at hc24
                        refine gc_skip ?_
                        refine gk_then (hK333 _ _ ?_)
                        refine gc_seq fun K335 hK335 => ?_
                        refine gc_seq fun K336 hK336 => ?_
                        refine gc_region ?_
                        refine g_v (.free rfl) rfl rfl (qt_move rfl rfl) ?_
                        refine g_v (.free rfl) rfl rfl (qt_move rfl rfl) ?_
                        refine g_v (.free rfl) rfl rfl (qt_neq rfl rfl rfl) ?_
                        refine g_nil ?_
                        refine gk_then (hK336 _ _ ?_)
                        refine gc_cond rfl (fun hc25 => ?_) (fun hc25 => ?_)
                        · try simp only [decide_eq_true_eq, decide_eq_false_iff_not, Bool.not_eq_true', Bool.not_eq_false', Bool.not_eq_eq_eq_not, Bool.not_true, Bool.not_false, ne_eq, Decidable.not_not, Classical.not_not] at hc25
                          first | (exfalso; omega) | exact absurd rfl hc25 | (simp at hc25)
                        · try simp only [decide_eq_true_eq, decide_eq_false_iff_not, Bool.not_eq_true', Bool.not_eq_false', Bool.not_eq_eq_eq_not, Bool.not_true, Bool.not_false, ne_eq, Decidable.not_not, Classical.not_not] at hc25
                          refine gc_skip ?_
                          refine gk_then (hK335 _ _ ?_)
                          refine gc_seq fun K337 hK337 => ?_
                          refine gc_region ?_
                          refine g_v (.free rfl) rfl rfl (qt_assign rfl rfl) ?_
                          refine g_nil ?_
                          refine gk_then (hK337 _ _ ?_)
                          refine gc_ret ?_
                          refine ret_1 rfl rfl  (fun w M => ?_)
                          exact ⟨rfl, M.1⟩
                    · refine go_alloc (z := (.agg #[.int .i64 0, .slice none 0 0, .slice none 0 0, .slice none 0 0, .slice none 0 0])) (cs := [.int .i64 0, .slice none 0 0, .slice none 0 0, .slice none 0 0, .slice none 0 0]) rfl rfl rfl (fun w => by kernel_rfl) rfl ?_
                      intro B338
                      refine hK323 _ _ (fun w M => (mem_take 14 M :)) ?_
                      refine ga_op 4 (by kernel_rfl) rfl (.free rfl) fun K341 hK341 => ?_
                      refine go_callCI1 rfl rfl rfl Try.func36 rfl (by decide) rfl (fun w M => himpl w _ _ ((mem_ownC (n := 14) M rfl).rd) ((mem_ownC (n := 15) M rfl).rd)) ?_
                      intro ca340 cb340 cc340 cd340 ce340 cf340 cg340 ch340
                      refine hK341 _ _ (fun w M => (mem_take 14 M :)) ?_
                      refine ga_v 5 rfl (by kernel_rfl) (by kernel_rfl) (by kernel_rfl) (.free rfl) rfl rfl (qt_move rfl rfl) (fun _ _ _ h => h) ?_
                      refine ga_v 6 rfl (by kernel_rfl) (by kernel_rfl) (by kernel_rfl) (.free rfl) rfl rfl (qt_extract rfl rfl rfl) (fun _ _ _ h => h) ?_
                      refine ga_v 7 rfl (by kernel_rfl) (by kernel_rfl) (by kernel_rfl) (.free rfl) rfl rfl (qt_extract rfl rfl rfl) (fun _ _ _ h => h) ?_
                      refine ga_op 9 (by kernel_rfl) rfl (.free rfl) fun K342 hK342 => ?_
                      refine go_storeS (n := 16) rfl rfl rfl rfl (by kernel_rfl) rfl rfl rfl ?_
                      refine hK342 _ _ (fun w M => (mem_take 14 M :)) ?_
                      refine ga_v 10 rfl (by kernel_rfl) (by kernel_rfl) (by kernel_rfl) (.free rfl) rfl rfl (qt_assign rfl rfl) (fun _ _ _ h => h) ?_
                      refine ga_done (by kernel_rfl) ?_
                      refine gk_then (hK316 _ _ ?_)
                      refine gc_seq fun K343 hK343 => ?_
                      refine gc_seq fun K344 hK344 => ?_
                      refine gc_region ?_
                      refine g_v (.free rfl) rfl rfl (qt_loadS (n := 16) rfl rfl Try.underlying26 rfl (by kernel_rfl) rfl) ?_
                      refine g_v (.free rfl) rfl rfl (qt_loadS (n := 3) rfl rfl Try.underlying26 rfl (by kernel_rfl) rfl) ?_
                      refine g_q (.free rfl) rfl rfl (qt_call rfl Try.func17 rfl (by decide) rfl (fun w M => eqC_refl_any w _ _ _ ((mem_ownC (n := 17) M rfl).rd) ((mem_ownC (n := 5) M rfl).rd))) ?_
                      refine g_v (.free rfl) rfl rfl (qt_not rfl rfl) ?_
                      refine g_v (.free rfl) rfl rfl (qt_move rfl rfl) ?_
                      refine g_v (.held _ _ _ rfl rfl rfl) rfl rfl (qt_move rfl rfl) ?_
                      refine g_v (.held _ _ _ rfl rfl rfl) rfl rfl (qt_move rfl rfl) ?_
                      refine g_v (.held _ _ _ rfl rfl rfl) rfl rfl (qt_neq_f rfl rfl rfl (fun h => h rfl)) ?_
                      refine g_v (.free rfl) rfl rfl (qt_pick_f rfl rfl rfl) ?_
                      refine g_nil ?_
                      refine gk_then (hK344 _ _ ?_)
                      refine gc_cond_f rfl ?_
                      refine gc_skip ?_
                      refine gk_then (hK343 _ _ ?_)
                      refine gc_seq fun K345 hK345 => ?_
                      refine gc_region ?_
                      refine g_v (.free rfl) rfl rfl (qt_assign rfl rfl) ?_
                      refine g_nil ?_
                      refine gk_then (hK345 _ _ ?_)
                      refine gc_seq fun K346 hK346 => ?_
                      refine gc_region ?_
                      refine g_v (.free rfl) rfl rfl (qt_loadS (n := 11) rfl rfl Try.underlying26 rfl (by kernel_rfl) rfl) ?_
                      refine g_v (.free rfl) rfl rfl (qt_move rfl rfl) ?_
                      refine g_q (.free rfl) rfl rfl (qt_call rfl Try.func21 rfl (by decide) rfl (fun w M => heldC_any w _ _ _ ((mem_ownC (n := 10) M rfl).rd) (by first | assumption | omega) (by first | assumption | omega))) ?_
                      refine g_v (.free rfl) rfl rfl (qt_assign rfl rfl) ?_
                      refine g_nil ?_
                      refine gk_then (hK346 _ _ ?_)
                      refine gc_seq fun K347 hK347 => ?_
                      refine gc_seq fun K348 hK348 => ?_
                      refine gc_region ?_
                      refine g_v (.free rfl) rfl rfl (qt_move rfl rfl) ?_
                      refine g_v (.free rfl) rfl rfl (qt_lss rfl rfl rfl) ?_
                      refine g_nil ?_
                      refine gk_then (hK348 _ _ ?_)
                      refine gc_cond rfl (fun hc26 => ?_) (fun hc26 => ?_)
                      · try simp only [decide_eq_true_eq, decide_eq_false_iff_not, Bool.not_eq_true', Bool.not_eq_false', Bool.not_eq_eq_eq_not, Bool.not_true, Bool.not_false, ne_eq, Decidable.not_not, Classical.not_not] at hc26
                        first | (exfalso; omega) | exact absurd rfl hc26 | (simp at hc26)
                      · try simp only [decide_eq_true_eq, decide_eq_false_iff_not, Bool.not_eq_true', Bool.not_eq_false', Bool.not_eq_eq_eq_not, Bool.not_true, Bool.not_false, ne_eq, Decidable.not_not, Classical.not_not] at hc26
                        refine gc_skip ?_
                        refine gk_then (hK347 _ _ ?_)
                        refine gc_seq fun K349 hK349 => ?_
                        refine gc_seq fun K350 hK350 => ?_
                        refine gc_region ?_
                        refine g_v (.free rfl) rfl rfl (qt_move rfl rfl) ?_
                        refine g_v (.free rfl) rfl rfl (qt_move rfl rfl) ?_
                        refine g_v (.free rfl) rfl rfl (qt_neq rfl rfl rfl) ?_
                        refine g_nil ?_
                        refine gk_then (hK350 _ _ ?_)
                        refine gc_cond rfl (fun hc27 => ?_) (fun hc27 => ?_)
                        · try simp only [decide_eq_true_eq, decide_eq_false_iff_not, Bool.not_eq_true', Bool.not_eq_false', Bool.not_eq_eq_eq_not, Bool.not_true, Bool.not_false, ne_eq, Decidable.not_not, Classical.not_not] at hc27
                          first | (exfalso; omega) | exact absurd rfl hc27 | (simp at hc27)
                        · try simp only [decide_eq_true_eq, decide_eq_false_iff_not, Bool.not_eq_true', Bool.not_eq_false', Bool.not_eq_eq_eq_not, Bool.not_true, Bool.not_false, ne_eq, Decidable.not_not, Classical.not_not] at hc27
                          refine gc_skip ?_
                          refine gk_then (hK349 _ _ ?_)
                          refine gc_seq fun K351 hK351 => ?_
                          refine gc_region ?_
                          refine g_v (.free rfl) rfl rfl (qt_assign rfl rfl) ?_
                          refine g_nil ?_
                          refine gk_then (hK351 _ _ ?_)
                          refine gc_ret ?_
                          refine ret_1 rfl rfl  (fun w M => ?_)
                          exact ⟨rfl, M.1⟩
                  · refine go_alloc (z := (.agg #[.int .i64 0, .slice none 0 0, .slice none 0 0, .slice none 0 0, .slice none 0 0])) (cs := [.int .i64 0, .slice none 0 0, .slice none 0 0, .slice none 0 0, .slice none 0 0]) rfl rfl rfl (fun w => by kernel_rfl) rfl ?_
                    intro B352
                    refine hK320 _ _ (fun w M => (mem_take 14 M :)) ?_
                    refine ga_op 3 (by kernel_rfl) rfl (.free rfl) fun K355 hK355 => ?_
                    refine go_callC1 rfl rfl rfl Try.func29 rfl (by decide) rfl (fun w M => toC_any w _ _ (mem_rdC M R1)) ?_
                    intro ca354 cb354 cc354 cd354 ce354 cf354 cg354 ch354
                    refine hK355 _ _ (fun w M => (mem_take 14 M :)) ?_
                    refine ga_op 4 (by kernel_rfl) rfl (.free rfl) fun K357 hK357 => ?_
                    refine go_callCI1 rfl rfl rfl Try.func36 rfl (by decide) rfl (fun w M => himpl w _ _ ((mem_ownC (n := 14) M rfl).rd) ((mem_ownC (n := 16) M rfl).rd)) ?_
                    intro ca356 cb356 cc356 cd356 ce356 cf356 cg356 ch356
                    refine hK357 _ _ (fun w M => (mem_take 14 M :)) ?_
                    refine ga_v 5 rfl (by kernel_rfl) (by kernel_rfl) (by kernel_rfl) (.free rfl) rfl rfl (qt_move rfl rfl) (fun _ _ _ h => h) ?_
                    refine ga_v 6 rfl (by kernel_rfl) (by kernel_rfl) (by kernel_rfl) (.free rfl) rfl rfl (qt_extract rfl rfl rfl) (fun _ _ _ h => h) ?_
                    refine ga_v 7 rfl (by kernel_rfl) (by kernel_rfl) (by kernel_rfl) (.free rfl) rfl rfl (qt_extract rfl rfl rfl) (fun _ _ _ h => h) ?_
                    refine ga_op 9 (by kernel_rfl) rfl (.free rfl) fun K358 hK358 => ?_
                    refine go_storeS (n := 15) rfl rfl rfl rfl (by kernel_rfl) rfl rfl rfl ?_
                    refine hK358 _ _ (fun w M => (mem_take 14 M :)) ?_
                    refine ga_v 10 rfl (by kernel_rfl) (by kernel_rfl) (by kernel_rfl) (.free rfl) rfl rfl (qt_assign rfl rfl) (fun _ _ _ h => h) ?_
                    refine ga_done (by kernel_rfl) ?_
                    refine gk_then (hK316 _ _ ?_)
                    refine gc_seq fun K359 hK359 => ?_
                    refine gc_seq fun K360 hK360 => ?_
                    refine gc_region ?_
                    refine g_v (.free rfl) rfl rfl (qt_loadS (n := 15) rfl rfl Try.underlying26 rfl (by kernel_rfl) rfl) ?_
                    refine g_v (.free rfl) rfl rfl (qt_loadS (n := 3) rfl rfl Try.underlying26 rfl (by kernel_rfl) rfl) ?_
                    refine g_q (.free rfl) rfl rfl (qt_call rfl Try.func17 rfl (by decide) rfl (fun w M => eqC_refl_any w _ _ _ ((mem_ownC (n := 17) M rfl).rd) ((mem_ownC (n := 5) M rfl).rd))) ?_
                    refine g_v (.free rfl) rfl rfl (qt_not rfl rfl) ?_
                    refine g_v (.free rfl) rfl rfl (qt_move rfl rfl) ?_
                    refine g_v (.held _ _ _ rfl rfl rfl) rfl rfl (qt_move rfl rfl) ?_
                    refine g_v (.held _ _ _ rfl rfl rfl) rfl rfl (qt_move rfl rfl) ?_
                    refine g_v (.held _ _ _ rfl rfl rfl) rfl rfl (qt_neq_f rfl rfl rfl (fun h => h rfl)) ?_
                    refine g_v (.free rfl) rfl rfl (qt_pick_f rfl rfl rfl) ?_
                    refine g_nil ?_
                    refine gk_then (hK360 _ _ ?_)
                    refine gc_cond_f rfl ?_
                    refine gc_skip ?_
                    refine gk_then (hK359 _ _ ?_)
                    refine gc_seq fun K361 hK361 => ?_
                    refine gc_region ?_
                    refine g_v (.free rfl) rfl rfl (qt_assign rfl rfl) ?_
                    refine g_nil ?_
                    refine gk_then (hK361 _ _ ?_)
                    refine gc_seq fun K362 hK362 => ?_
                    refine gc_region ?_
                    refine g_v (.free rfl) rfl rfl (qt_loadS (n := 11) rfl rfl Try.underlying26 rfl (by kernel_rfl) rfl) ?_
                    refine g_v (.free rfl) rfl rfl (qt_move rfl rfl) ?_
                    refine g_q (.free rfl) rfl rfl (qt_call rfl Try.func21 rfl (by decide) rfl (fun w M => heldC_any w _ _ _ ((mem_ownC (n := 10) M rfl).rd) (by first | assumption | omega) (by first | assumption | omega))) ?_
                    refine g_v (.free rfl) rfl rfl (qt_assign rfl rfl) ?_
                    refine g_nil ?_
                    refine gk_then (hK362 _ _ ?_)
                    refine gc_seq fun K363 hK363 => ?_
                    refine gc_seq fun K364 hK364 => ?_
                    refine gc_region ?_
                    refine g_v (.free rfl) rfl rfl (qt_move rfl rfl) ?_
                    refine g_v (.free rfl) rfl rfl (qt_lss rfl rfl rfl) ?_
                    refine g_nil ?_
                    refine gk_then (hK364 _ _ ?_)
                    refine gc_cond rfl (fun hc28 => ?_) (fun hc28 => ?_)
                    · try simp only [decide_eq_true_eq, decide_eq_false_iff_not, Bool.not_eq_true', Bool.not_eq_false', Bool.not_eq_eq_eq_not, Bool.not_true, Bool.not_false, ne_eq, Decidable.not_not, Classical.not_not] at hc28
                      first | (exfalso; omega) | exact absurd rfl hc28 | (simp at hc28)
                    · try simp only [decide_eq_true_eq, decide_eq_false_iff_not, Bool.not_eq_true', Bool.not_eq_false', Bool.not_eq_eq_eq_not, Bool.not_true, Bool.not_false, ne_eq, Decidable.not_not, Classical.not_not] at hc28
                      refine gc_skip ?_
                      refine gk_then (hK363 _ _ ?_)
                      refine gc_seq fun K365 hK365 => ?_
                      refine gc_seq fun K366 hK366 => ?_
                      refine gc_region ?_
                      refine g_v (.free rfl) rfl rfl (qt_move rfl rfl) ?_
                      refine g_v (.free rfl) rfl rfl (qt_move rfl rfl) ?_
                      refine g_v (.free rfl) rfl rfl (qt_neq rfl rfl rfl) ?_
                      refine g_nil ?_
                      refine gk_then (hK366 _ _ ?_)
                      refine gc_cond rfl (fun hc29 => ?_) (fun hc29 => ?_)
                      · try simp only [decide_eq_true_eq, decide_eq_false_iff_not, Bool.not_eq_true', Bool.not_eq_false', Bool.not_eq_eq_eq_not, Bool.not_true, Bool.not_false, ne_eq, Decidable.not_not, Classical.not_not] at hc29
                        first | (exfalso; omega) | exact absurd rfl hc29 | (simp at hc29)
                      · try simp only [decide_eq_true_eq, decide_eq_false_iff_not, Bool.not_eq_true', Bool.not_eq_false', Bool.not_eq_eq_eq_not, Bool.not_true, Bool.not_false, ne_eq, Decidable.not_not, Classical.not_not] at hc29
                        refine gc_skip ?_
                        refine gk_then (hK365 _ _ ?_)
                        refine gc_seq fun K367 hK367 => ?_
                        refine gc_region ?_
                        refine g_v (.free rfl) rfl rfl (qt_assign rfl rfl) ?_
                        refine g_nil ?_
                        refine gk_then (hK367 _ _ ?_)
                        refine gc_ret ?_
                        refine ret_1 rfl rfl  (fun w M => ?_)
                        exact ⟨rfl, M.1⟩
                · refine go_alloc (z := (.agg #[.int .i64 0, .slice none 0 0, .slice none 0 0, .slice none 0 0, .slice none 0 0])) (cs := [.int .i64 0, .slice none 0 0, .slice none 0 0, .slice none 0 0, .slice none 0 0]) rfl rfl rfl (fun w => by kernel_rfl) rfl ?_
                  intro B368
                  refine hK317 _ _ (fun w M => (mem_take 14 M :)) ?_
                  refine ga_op 1 (by kernel_rfl) rfl (.free rfl) fun K371 hK371 => ?_
                  refine go_callC1 rfl rfl rfl Try.func29 rfl (by decide) rfl (fun w M => toC_any w _ _ (mem_rdC M R0)) ?_
                  intro ca370 cb370 cc370 cd370 ce370 cf370 cg370 ch370
                  refine hK371 _ _ (fun w M => (mem_take 14 M :)) ?_
                  refine ga_op 3 (by kernel_rfl) rfl (.free rfl) fun K373 hK373 => ?_
                  refine go_callC1 rfl rfl rfl Try.func29 rfl (by decide) rfl (fun w M => toC_any w _ _ (mem_rdC M R1)) ?_
                  intro ca372 cb372 cc372 cd372 ce372 cf372 cg372 ch372
                  refine hK373 _ _ (fun w M => (mem_take 14 M :)) ?_
                  refine ga_op 4 (by kernel_rfl) rfl (.free rfl) fun K375 hK375 => ?_
                  refine go_callCI1 rfl rfl rfl Try.func36 rfl (by decide) rfl (fun w M => himpl w _ _ ((mem_ownC (n := 15) M rfl).rd) ((mem_ownC (n := 16) M rfl).rd)) ?_
                  intro ca374 cb374 cc374 cd374 ce374 cf374 cg374 ch374
                  refine hK375 _ _ (fun w M => (mem_take 14 M :)) ?_
                  refine ga_v 5 rfl (by kernel_rfl) (by kernel_rfl) (by kernel_rfl) (.free rfl) rfl rfl (qt_move rfl rfl) (fun _ _ _ h => h) ?_
                  refine ga_v 6 rfl (by kernel_rfl) (by kernel_rfl) (by kernel_rfl) (.free rfl) rfl rfl (qt_extract rfl rfl rfl) (fun _ _ _ h => h) ?_
                  refine ga_v 7 rfl (by kernel_rfl) (by kernel_rfl) (by kernel_rfl) (.free rfl) rfl rfl (qt_extract rfl rfl rfl) (fun _ _ _ h => h) ?_
                  refine ga_op 9 (by kernel_rfl) rfl (.free rfl) fun K376 hK376 => ?_
                  refine go_storeS (n := 14) rfl rfl rfl rfl (by kernel_rfl) rfl rfl rfl ?_
                  refine hK376 _ _ (fun w M => (mem_take 14 M :)) ?_
                  refine ga_v 10 rfl (by kernel_rfl) (by kernel_rfl) (by kernel_rfl) (.free rfl) rfl rfl (qt_assign rfl rfl) (fun _ _ _ h => h) ?_
                  refine ga_done (by kernel_rfl) ?_
                  refine gk_then (hK316 _ _ ?_)
                  refine gc_seq fun K377 hK377 => ?_
                  refine gc_seq fun K378 hK378 => ?_
                  refine gc_region ?_
                  refine g_v (.free rfl) rfl rfl (qt_loadS (n := 14) rfl rfl Try.underlying26 rfl (by kernel_rfl) rfl) ?_
                  refine g_v (.free rfl) rfl rfl (qt_loadS (n := 3) rfl rfl Try.underlying26 rfl (by kernel_rfl) rfl) ?_
                  refine g_q (.free rfl) rfl rfl (qt_call rfl Try.func17 rfl (by decide) rfl (fun w M => eqC_refl_any w _ _ _ ((mem_ownC (n := 17) M rfl).rd) ((mem_ownC (n := 5) M rfl).rd))) ?_
                  refine g_v (.free rfl) rfl rfl (qt_not rfl rfl) ?_
                  refine g_v (.free rfl) rfl rfl (qt_move rfl rfl) ?_
                  refine g_v (.held _ _ _ rfl rfl rfl) rfl rfl (qt_move rfl rfl) ?_
                  refine g_v (.held _ _ _ rfl rfl rfl) rfl rfl (qt_move rfl rfl) ?_
                  refine g_v (.held _ _ _ rfl rfl rfl) rfl rfl (qt_neq_f rfl rfl rfl (fun h => h rfl)) ?_
                  refine g_v (.free rfl) rfl rfl (qt_pick_f rfl rfl rfl) ?_
                  refine g_nil ?_
                  refine gk_then (hK378 _ _ ?_)
                  refine gc_cond_f rfl ?_
                  refine gc_skip ?_
                  refine gk_then (hK377 _ _ ?_)
                  refine gc_seq fun K379 hK379 => ?_
                  refine gc_region ?_
                  refine g_v (.free rfl) rfl rfl (qt_assign rfl rfl) ?_
                  refine g_nil ?_
                  refine gk_then (hK379 _ _ ?_)
                  refine gc_seq fun K380 hK380 => ?_
                  refine gc_region ?_
                  refine g_v (.free rfl) rfl rfl (qt_loadS (n := 11) rfl rfl Try.underlying26 rfl (by kernel_rfl) rfl) ?_
                  refine g_v (.free rfl) rfl rfl (qt_move rfl rfl) ?_
                  refine g_q (.free rfl) rfl rfl (qt_call rfl Try.func21 rfl (by decide) rfl (fun w M => heldC_any w _ _ _ ((mem_ownC (n := 10) M rfl).rd) (by first | assumption | omega) (by first | assumption | omega))) ?_
                  refine g_v (.free rfl) rfl rfl (qt_assign rfl rfl) ?_
                  refine g_nil ?_
                  refine gk_then (hK380 _ _ ?_)
                  refine gc_seq fun K381 hK381 => ?_
                  refine gc_seq fun K382 hK382 => ?_
                  refine gc_region ?_
                  refine g_v (.free rfl) rfl rfl (qt_move rfl rfl) ?_
                  refine g_v (.free rfl) rfl rfl (qt_lss rfl rfl rfl) ?_
                  refine g_nil ?_
                  refine gk_then (hK382 _ _ ?_)
                  refine gc_cond rfl (fun hc30 => ?_) (fun hc30 => ?_)
                  · try simp only [decide_eq_true_eq, decide_eq_false_iff_not, Bool.not_eq_true', Bool.not_eq_false', Bool.not_eq_eq_eq_not, Bool.not_true, Bool.not_false, ne_eq, Decidable.not_not, Classical.not_not] at hc30
                    first | (exfalso; omega) | exact absurd rfl hc30 | (simp at hc30)
                  · try simp only [decide_eq_true_eq, decide_eq_false_iff_not, Bool.not_eq_true', Bool.not_eq_false', Bool.not_eq_eq_eq_not, Bool.not_true, Bool.not_false, ne_eq, Decidable.not_not, Classical.not_not] at hc30
                    refine gc_skip ?_
                    refine gk_then (hK381 _ _ ?_)
                    refine gc_seq fun K383 hK383 => ?_
                    refine gc_seq fun K384 hK384 => ?_
                    refine gc_region ?_
                    refine g_v (.free rfl) rfl rfl (qt_move rfl rfl) ?_
                    refine g_v (.free rfl) rfl rfl (qt_move rfl rfl) ?_
                    refine g_v (.free rfl) rfl rfl (qt_neq rfl rfl rfl) ?_
                    refine g_nil ?_
                    refine gk_then (hK384 _ _ ?_)
                    refine gc_cond rfl (fun hc31 => ?_) (fun hc31 => ?_)
                    · try simp only [decide_eq_true_eq, decide_eq_false_iff_not, Bool.not_eq_true', Bool.not_eq_false', Bool.not_eq_eq_eq_not, Bool.not_true, Bool.not_false, ne_eq, Decidable.not_not, Classical.not_not] at hc31
                      first | (exfalso; omega) | exact absurd rfl hc31 | (simp at hc31)
                    · try simp only [decide_eq_true_eq, decide_eq_false_iff_not, Bool.not_eq_true', Bool.not_eq_false', Bool.not_eq_eq_eq_not, Bool.not_true, Bool.not_false, ne_eq, Decidable.not_not, Classical.not_not] at hc31
                      refine gc_skip ?_
                      refine gk_then (hK383 _ _ ?_)
                      refine gc_seq fun K385 hK385 => ?_
                      refine gc_region ?_
                      refine g_v (.free rfl) rfl rfl (qt_assign rfl rfl) ?_
                      refine g_nil ?_
                      refine gk_then (hK385 _ _ ?_)
                      refine gc_ret ?_
                      refine ret_1 rfl rfl  (fun w M => ?_)
                      exact ⟨rfl, M.1⟩
      · refine go_alloc (z := (.agg #[.int .i64 0, .slice none 0 0, .slice none 0 0, .slice none 0 0, .slice none 0 0])) (cs := [.int .i64 0, .slice none 0 0, .slice none 0 0, .slice none 0 0, .slice none 0 0]) rfl rfl rfl (fun w => by kernel_rfl) rfl ?_
        intro B386
        refine hK14 _ _ (fun w M => (mem_take 2 M :)) ?_
        refine ga_op 1 (by kernel_rfl) rfl (.free rfl) fun K389 hK389 => ?_
        refine go_callC1 rfl rfl rfl Try.func29 rfl (by decide) rfl (fun w M => toC_any w _ _ (mem_rdC M R0)) ?_
        intro ca388 cb388 cc388 cd388 ce388 cf388 cg388 ch388
        refine hK389 _ _ (fun w M => (mem_take 2 M :)) ?_
        refine ga_op 3 (by kernel_rfl) rfl (.free rfl) fun K391 hK391 => ?_
        refine go_callC1 rfl rfl rfl Try.func29 rfl (by decide) rfl (fun w M => toC_any w _ _ (mem_rdC M R1)) ?_
        intro ca390 cb390 cc390 cd390 ce390 cf390 cg390 ch390
        refine hK391 _ _ (fun w M => (mem_take 2 M :)) ?_
        refine ga_op 4 (by kernel_rfl) rfl (.free rfl) fun K393 hK393 => ?_
        refine go_callCI1 rfl rfl rfl Try.func35 rfl (by decide) rfl (fun w M => hspec w _ _ ((mem_ownC (n := 3) M rfl).rd) ((mem_ownC (n := 4) M rfl).rd)) ?_
        intro ca392 cb392 cc392 cd392 ce392 cf392 cg392 ch392
        refine hK393 _ _ (fun w M => (mem_take 2 M :)) ?_
        refine ga_v 5 rfl (by kernel_rfl) (by kernel_rfl) (by kernel_rfl) (.free rfl) rfl rfl (qt_move rfl rfl) (fun _ _ _ h => h) ?_
        refine ga_v 6 rfl (by kernel_rfl) (by kernel_rfl) (by kernel_rfl) (.free rfl) rfl rfl (qt_extract rfl rfl rfl) (fun _ _ _ h => h) ?_
        refine ga_v 7 rfl (by kernel_rfl) (by kernel_rfl) (by kernel_rfl) (.free rfl) rfl rfl (qt_extract rfl rfl rfl) (fun _ _ _ h => h) ?_
        refine ga_op 9 (by kernel_rfl) rfl (.free rfl) fun K394 hK394 => ?_
        refine go_storeS (n := 2) rfl rfl rfl rfl (by kernel_rfl) rfl rfl rfl ?_
        refine hK394 _ _ (fun w M => (mem_take 2 M :)) ?_
        refine ga_v 10 rfl (by kernel_rfl) (by kernel_rfl) (by kernel_rfl) (.free rfl) rfl rfl (qt_assign rfl rfl) (fun _ _ _ h => h) ?_
        refine ga_done (by kernel_rfl) ?_
        refine gk_then (hK13 _ _ ?_)
        refine gc_seq fun K395 hK395 => ?_
        refine gc_region ?_
        refine g_v (.free rfl) rfl rfl (qt_loadS (n := 0) rfl rfl Try.underlying39 rfl (by kernel_rfl) rfl) ?_
        refine g_op (.free rfl) fun K397 hK397 => ?_
        refine go_callC1 rfl rfl rfl Try.func29 rfl (by decide) rfl (fun w M => toC_any w _ _ (mem_rdC M R0)) ?_
        intro ca396 cb396 cc396 cd396 ce396 cf396 cg396 ch396
        refine hK397 _ _ ?_
        refine g_op (.free rfl) fun K399 hK399 => ?_
        refine go_alloc (z := (.agg #[.int .i64 0, .slice none 0 0, .slice none 0 0, .slice none 0 0, .slice none 0 0])) (cs := [.int .i64 0, .slice none 0 0, .slice none 0 0, .slice none 0 0, .slice none 0 0]) rfl rfl rfl (fun w => by kernel_rfl) rfl ?_
        intro B398
        refine hK399 _ _ ?_
        refine g_op (.free rfl) fun K400 hK400 => ?_
        refine go_storeS (n := 7) rfl rfl rfl rfl (by kernel_rfl) rfl rfl rfl ?_
        refine hK400 _ _ ?_
        refine g_nil ?_
        refine gk_then (hK395 _ _ ?_)
        refine gc_seq fun K401 hK401 => ?_
        refine gc_region ?_
        refine g_v (.free rfl) rfl rfl (qt_loadS (n := 1) rfl rfl Try.underlying39 rfl (by kernel_rfl) rfl) ?_
        refine g_op (.free rfl) fun K403 hK403 => ?_
        refine go_callC1 rfl rfl rfl Try.func29 rfl (by decide) rfl (fun w M => toC_any w _ _ (mem_rdC M R1)) ?_
        intro ca402 cb402 cc402 cd402 ce402 cf402 cg402 ch402
        refine hK403 _ _ ?_
        refine g_op (.free rfl) fun K405 hK405 => ?_
        refine go_alloc (z := (.agg #[.int .i64 0, .slice none 0 0, .slice none 0 0, .slice none 0 0, .slice none 0 0])) (cs := [.int .i64 0, .slice none 0 0, .slice none 0 0, .slice none 0 0, .slice none 0 0]) rfl rfl rfl (fun w => by kernel_rfl) rfl ?_
        intro B404
        refine hK405 _ _ ?_
        refine g_op (.free rfl) fun K406 hK406 => ?_
        refine go_storeS (n := 9) rfl rfl rfl rfl (by kernel_rfl) rfl rfl rfl ?_
        refine hK406 _ _ ?_
        refine g_nil ?_
        refine gk_then (hK401 _ _ ?_)
        refine gc_seq fun K407 hK407 => ?_
        refine gc_region ?_
        refine g_v (.free rfl) rfl rfl (qt_loadS (n := 7) rfl rfl Try.underlying26 rfl (by kernel_rfl) rfl) ?_
        refine g_v (.free rfl) rfl rfl (qt_loadS (n := 9) rfl rfl Try.underlying26 rfl (by kernel_rfl) rfl) ?_
        refine g_op (.free rfl) fun K409 hK409 => ?_
        refine go_callCI1 rfl rfl rfl Try.func36 rfl (by decide) rfl (fun w M => himpl w _ _ ((mem_ownC (n := 6) M rfl).rd) ((mem_ownC (n := 8) M rfl).rd)) ?_
        intro ca408 cb408 cc408 cd408 ce408 cf408 cg408 ch408
        refine hK409 _ _ ?_
        refine g_v (.free rfl) rfl rfl (qt_move rfl rfl) ?_
        refine g_v (.free rfl) rfl rfl (qt_extract rfl rfl rfl) ?_
        refine g_v (.free rfl) rfl rfl (qt_extract rfl rfl rfl) ?_
        refine g_op (.free rfl) fun K411 hK411 => ?_
        refine go_alloc (z := (.agg #[.int .i64 0, .slice none 0 0, .slice none 0 0, .slice none 0 0, .slice none 0 0])) (cs := [.int .i64 0, .slice none 0 0, .slice none 0 0, .slice none 0 0, .slice none 0 0]) rfl rfl rfl (fun w => by kernel_rfl) rfl ?_
        intro B410
        refine hK411 _ _ ?_
        refine g_op (.free rfl) fun K412 hK412 => ?_
        refine go_storeS (n := 11) rfl rfl rfl rfl (by kernel_rfl) rfl rfl rfl ?_
        refine hK412 _ _ ?_
        refine g_v (.free rfl) rfl rfl (qt_assign rfl rfl) ?_
        refine g_nil ?_
        refine gk_then (hK407 _ _ ?_)
        refine gc_seq fun K413 hK413 => ?_
        refine gc_seq fun K414 hK414 => ?_
        refine gc_region ?_
        refine g_v (.free rfl) rfl rfl (qt_loadS (n := 11) rfl rfl Try.underlying26 rfl (by kernel_rfl) rfl) ?_
        refine g_v (.free rfl) rfl rfl (qt_loadS (n := 2) rfl rfl Try.underlying26 rfl (by kernel_rfl) rfl) ?_
        refine g_q (.free rfl) rfl rfl (qt_call rfl Try.func17 rfl (by decide) rfl (fun w M => eqC_refl_any w _ _ _ ((mem_ownC (n := 10) M rfl).rd) ((mem_ownC (n := 5) M rfl).rd))) ?_
        refine g_v (.free rfl) rfl rfl (qt_not rfl rfl) ?_
        refine g_v (.free rfl) rfl rfl (qt_move rfl rfl) ?_
        refine g_v (.held _ _ _ rfl rfl rfl) rfl rfl (qt_move rfl rfl) ?_
        refine g_v (.held _ _ _ rfl rfl rfl) rfl rfl (qt_move rfl rfl) ?_
        refine g_v (.held _ _ _ rfl rfl rfl) rfl rfl (qt_neq_f rfl rfl rfl (fun h => h rfl)) ?_
        refine g_v (.free rfl) rfl rfl (qt_pick_f rfl rfl rfl) ?_
        refine g_nil ?_
        refine gk_then (hK414 _ _ ?_)
        refine gc_cond_f rfl ?_
        refine gc_skip ?_
        refine gk_then (hK413 _ _ ?_)
        refine gc_seq fun K415 hK415 => ?_
        refine gc_seq fun K416 hK416 => ?_
        try simp only [List.nil_append, List.cons_append, List.append_assoc, List.set_cons_succ, List.set_cons_zero]
        refine ga_start _ (fun w M => M) ?_
        refine ga_v 0 rfl (by kernel_rfl) (by kernel_rfl) (by kernel_rfl) (.free rfl) rfl rfl (qt_loadS (n := 7) rfl rfl Try.underlying26 rfl (by kernel_rfl) rfl) (fun _ _ _ h => h) ?_
        refine ga_v 1 rfl (by kernel_rfl) (by kernel_rfl) (by kernel_rfl) (.free rfl) rfl rfl (qt_loadS (n := 0) rfl rfl Try.underlying39 rfl (by kernel_rfl) rfl) (fun _ _ _ h => h) ?_
        refine ga_op 2 (by kernel_rfl) rfl (.free rfl) fun K418 hK418 => ?_
        refine go_callC1 rfl rfl rfl Try.func29 rfl (by decide) rfl (fun w M => toC_any w _ _ (mem_rdC M R0)) ?_
        intro ca417 cb417 cc417 cd417 ce417 cf417 cg417 ch417
        refine hK418 _ _ (fun w M => (mem_take 12 M :)) ?_
        refine ga_op 3 (by kernel_rfl) rfl (.free rfl) fun K419 hK419 => ?_
        refine go_q rfl rfl (qt_call rfl Try.func17 rfl (by decide) rfl (fun w M => eqC_refl_any w _ _ _ ((mem_ownC (n := 6) M rfl).rd) ((mem_ownC (n := 12) M rfl).rd))) ?_
        refine hK419 _ _ (fun w M => (mem_take 12 M :)) ?_
        refine ga_v 4 rfl (by kernel_rfl) (by kernel_rfl) (by kernel_rfl) (.free rfl) rfl rfl (qt_not rfl rfl) (fun _ _ _ h => h) ?_
        refine ga_done (by kernel_rfl) ?_
        refine gk_then (hK416 _ _ ?_)
        refine gc_cond_f rfl ?_
        refine gc_skip ?_
        refine gk_then (hK415 _ _ ?_)
        refine gc_seq fun K420 hK420 => ?_
        refine gc_seq fun K421 hK421 => ?_
        try simp only [List.nil_append, List.cons_append, List.append_assoc, List.set_cons_succ, List.set_cons_zero]
        refine ga_start _ (fun w M => M) ?_
        refine ga_v 0 rfl (by kernel_rfl) (by kernel_rfl) (by kernel_rfl) (.free rfl) rfl rfl (qt_loadS (n := 9) rfl rfl Try.underlying26 rfl (by kernel_rfl) rfl) (fun _ _ _ h => h) ?_
        refine ga_v 1 rfl (by kernel_rfl) (by kernel_rfl) (by kernel_rfl) (.free rfl) rfl rfl (qt_loadS (n := 1) rfl rfl Try.underlying39 rfl (by kernel_rfl) rfl) (fun _ _ _ h => h) ?_
        refine ga_op 2 (by kernel_rfl) rfl (.free rfl) fun K423 hK423 => ?_
        refine go_callC1 rfl rfl rfl Try.func29 rfl (by decide) rfl (fun w M => toC_any w _ _ (mem_rdC M R1)) ?_
        intro ca422 cb422 cc422 cd422 ce422 cf422 cg422 ch422
        refine hK423 _ _ (fun w M => (mem_take 13 M :)) ?_
        refine ga_op 3 (by kernel_rfl) rfl (.free rfl) fun K424 hK424 => ?_
        refine go_q rfl rfl (qt_call rfl Try.func17 rfl (by decide) rfl (fun w M => eqC_refl_any w _ _ _ ((mem_ownC (n := 8) M rfl).rd) ((mem_ownC (n := 13) M rfl).rd))) ?_
        refine hK424 _ _ (fun w M => (mem_take 13 M :)) ?_
        refine ga_v 4 rfl (by kernel_rfl) (by kernel_rfl) (by kernel_rfl) (.free rfl) rfl rfl (qt_not rfl rfl) (fun _ _ _ h => h) ?_
        refine ga_done (by kernel_rfl) ?_
        refine gk_then (hK421 _ _ ?_)
        refine gc_cond_f rfl ?_
        refine gc_skip ?_
        refine gk_then (hK420 _ _ ?_)
        refine gc_seq fun K425 hK425 => ?_
        refine gc_region ?_
        refine g_v (.free rfl) rfl rfl (qt_assign rfl rfl) ?_
        refine g_nil ?_
        refine gk_then (hK425 _ _ ?_)
        refine gc_seq fun K426 hK426 => ?_
        refine gc_region ?_
        refine g_v (.free rfl) rfl rfl (qt_loadS (n := 7) rfl rfl Try.underlying26 rfl (by kernel_rfl) rfl) ?_
        refine g_v (.free rfl) rfl rfl (qt_move rfl rfl) ?_
        refine g_op (.free rfl) fun K427 hK427 => ?_
        refine go_mark (ownCI _ (mkC _ _)) (n := 6) rfl rfl rfl Try.func20 rfl (by decide) rfl rfl (fun w S hS => markC_any w S _ _ _ hS (by omega) (by omega)) ?_
        refine hK427 _ _ ?_
        refine g_v (.free rfl) rfl rfl (qt_assign rfl rfl) ?_
        refine g_nil ?_
        refine gk_then (hK426 _ _ ?_)
        refine gc_seq fun K428 hK428 => ?_
        refine gc_region ?_
        refine g_v (.free rfl) rfl rfl (qt_loadS (n := 9) rfl rfl Try.underlying26 rfl (by kernel_rfl) rfl) ?_
        refine g_v (.free rfl) rfl rfl (qt_move rfl rfl) ?_
        refine g_op (.free rfl) fun K429 hK429 => ?_
        refine go_mark (ownCI _ (mkC _ _)) (n := 8) rfl rfl rfl Try.func20 rfl (by decide) rfl rfl (fun w S hS => markC_any w S _ _ _ hS (by omega) (by omega)) ?_
        refine hK429 _ _ ?_
        refine g_v (.free rfl) rfl rfl (qt_assign rfl rfl) ?_
        refine g_nil ?_
        refine gk_then (hK428 _ _ ?_)
        refine gc_seq fun K430 hK430 => ?_
        refine gc_seq fun K431 hK431 => ?_
        refine gc_region ?_
        refine g_v (.free rfl) rfl rfl (qt_move rfl rfl) ?_
        refine g_v (.free rfl) rfl rfl (qt_lss rfl rfl rfl) ?_
        refine g_splitv (.free rfl) rfl rfl (qt_move rfl rfl) (fun hs21_2 => ?_) (fun hs21_2 => ?_)
        · try simp only [decide_eq_true_eq, decide_eq_false_iff_not, Bool.not_eq_true', Bool.not_eq_false', Bool.not_eq_eq_eq_not, Bool.not_true, Bool.not_false, ne_eq, Decidable.not_not, Classical.not_not] at hs21_2
          first | (exfalso; omega) | exact absurd rfl hs21_2 | (simp at hs21_2)
        · try simp only [decide_eq_true_eq, decide_eq_false_iff_not, Bool.not_eq_true', Bool.not_eq_false', Bool.not_eq_eq_eq_not, Bool.not_true, Bool.not_false, ne_eq, Decidable.not_not, Classical.not_not] at hs21_2
          refine g_v (.held _ _ _ rfl rfl rfl) rfl rfl (qt_loadS (n := 11) rfl rfl Try.underlying26 rfl (by kernel_rfl) rfl) ?_
          refine g_v (.held _ _ _ rfl rfl rfl) rfl rfl (qt_loadS (n := 2) rfl rfl Try.underlying26 rfl (by kernel_rfl) rfl) ?_
          refine g_q (.held _ _ _ rfl rfl rfl) rfl rfl (qt_call rfl Try.func17 rfl (by decide) rfl (fun w M => eqC_refl_any w _ _ _ ((mem_ownC (n := 10) M rfl).rd) ((mem_ownC (n := 5) M rfl).rd))) ?_
          refine g_v (.held _ _ _ rfl rfl rfl) rfl rfl (qt_not rfl rfl) ?_
          refine g_v (.free rfl) rfl rfl (qt_pick_f rfl rfl rfl) ?_
          refine g_v (.free rfl) rfl rfl (qt_move rfl rfl) ?_
          refine g_v (.held _ _ _ rfl rfl rfl) rfl rfl (qt_move rfl rfl) ?_
          refine g_v (.held _ _ _ rfl rfl rfl) rfl rfl (qt_move rfl rfl) ?_
          refine g_v (.held _ _ _ rfl rfl rfl) rfl rfl (qt_neq_f rfl rfl rfl (fun h => h rfl)) ?_
          refine g_v (.free rfl) rfl rfl (qt_pick_f rfl rfl rfl) ?_
          refine g_nil ?_
          refine gk_then (hK431 _ _ ?_)
          refine gc_cond_f rfl ?_
          refine gc_skip ?_
          refine gk_then (hK430 _ _ ?_)
          refine gc_seq fun K432 hK432 => ?_
          refine gc_region ?_
          refine g_v (.free rfl) rfl rfl (qt_assign rfl rfl) ?_
          refine g_nil ?_
          refine gk_then (hK432 _ _ ?_)
          refine gc_seq fun K433 hK433 => ?_
          refine gc_region ?_
          refine g_v (.free rfl) rfl rfl (qt_loadS (n := 11) rfl rfl Try.underlying26 rfl (by kernel_rfl) rfl) ?_
          refine g_v (.free rfl) rfl rfl (qt_move rfl rfl) ?_
          refine g_op (.free rfl) fun K434 hK434 => ?_
          refine go_mark (ownCI _ (mkC _ _)) (n := 10) rfl rfl rfl Try.func20 rfl (by decide) rfl rfl (fun w S hS => markC_any w S _ _ _ hS (by omega) (by omega)) ?_
          refine hK434 _ _ ?_
          refine g_v (.free rfl) rfl rfl (qt_assign rfl rfl) ?_
          refine g_nil ?_
          refine gk_then (hK433 _ _ ?_)
          refine gc_seq fun K435 hK435 => ?_
          refine gc_region ?_
          refine g_v (.free rfl) rfl rfl (qt_assign rfl rfl) ?_
          refine g_nil ?_
          refine gk_then (hK435 _ _ ?_)
          refine gc_seq fun K436 hK436 => ?_
          refine gc_region ?_
          refine g_v (.free rfl) rfl rfl (qt_loadS (n := 11) rfl rfl Try.underlying26 rfl (by kernel_rfl) rfl) ?_
          refine g_v (.free rfl) rfl rfl (qt_move rfl rfl) ?_
          refine g_q (.free rfl) rfl rfl (qt_call rfl Try.func21 rfl (by decide) rfl (fun w M => heldC_any w _ _ _ ((mem_ownC (n := 10) M rfl).rd) (by first | assumption | omega) (by first | assumption | omega))) ?_
          refine g_v (.free rfl) rfl rfl (qt_assign rfl rfl) ?_
          refine g_nil ?_
          refine gk_then (hK436 _ _ ?_)
          refine gc_seq fun K437 hK437 => ?_
          refine gc_seq fun K438 hK438 => ?_
          refine gc_region ?_
          refine g_v (.free rfl) rfl rfl (qt_move rfl rfl) ?_
          refine g_v (.free rfl) rfl rfl (qt_lss rfl rfl rfl) ?_
          refine g_nil ?_
          refine gk_then (hK438 _ _ ?_)
          refine gc_cond rfl (fun hc32 => ?_) (fun hc32 => ?_)
          · try simp only [decide_eq_true_eq, decide_eq_false_iff_not, Bool.not_eq_true', Bool.not_eq_false', Bool.not_eq_eq_eq_not, Bool.not_true, Bool.not_false, ne_eq, Decidable.not_not, Classical.not_not] at hc32
            first | (exfalso; omega) | exact absurd rfl hc32 | (simp at hc32)
          · try simp only [decide_eq_true_eq, decide_eq_false_iff_not, Bool.not_eq_true', Bool.not_eq_false', Bool.not_eq_eq_eq_not, Bool.not_true, Bool.not_false, ne_eq, Decidable.not_not, Classical.not_not] at hc32
            refine gc_skip ?_
            refine gk_then (hK437 _ _ ?_)
            refine gc_seq fun K439 hK439 => ?_
            refine gc_seq fun K440 hK440 => ?_
            refine gc_region ?_
            refine g_v (.free rfl) rfl rfl (qt_move rfl rfl) ?_
            refine g_v (.free rfl) rfl rfl (qt_move rfl rfl) ?_
            refine g_v (.free rfl) rfl rfl (qt_neq rfl rfl rfl) ?_
            refine g_nil ?_
            refine gk_then (hK440 _ _ ?_)
            refine gc_cond rfl (fun hc33 => ?_) (fun hc33 => ?_)
            · try simp only [decide_eq_true_eq, decide_eq_false_iff_not, Bool.not_eq_true', Bool.not_eq_false', Bool.not_eq_eq_eq_not, Bool.not_true, Bool.not_false, ne_eq, Decidable.not_not, Classical.not_not] at hc33
              first | (exfalso; omega) | exact absurd rfl hc33 | (simp at hc33)
            · try simp only [decide_eq_true_eq, decide_eq_false_iff_not, Bool.not_eq_true', Bool.not_eq_false', Bool.not_eq_eq_eq_not, Bool.not_true, Bool.not_false, ne_eq, Decidable.not_not, Classical.not_not] at hc33
              refine gc_skip ?_
              refine gk_then (hK439 _ _ ?_)
              refine gc_seq fun K441 hK441 => ?_
              try simp only [List.nil_append, List.cons_append, List.append_assoc, List.set_cons_succ, List.set_cons_zero]
              refine ga_start _ (fun w M => M) ?_
              refine ga_v 0 rfl (by kernel_rfl) (by kernel_rfl) (by kernel_rfl) (.free rfl) rfl rfl (qt_loadS (n := 0) rfl rfl Try.underlying39 rfl (by kernel_rfl) rfl) (fun _ _ _ h => h) ?_
              refine ga_v 2 rfl (by kernel_rfl) (by kernel_rfl) (by kernel_rfl) (.free rfl) rfl rfl (qt_loadS (n := 1) rfl rfl Try.underlying39 rfl (by kernel_rfl) rfl) (fun _ _ _ h => h) ?_
              refine ga_two 1 8 (by kernel_rfl) rfl rfl (.free rfl) (.free rfl) (fun K442 hK442 => ?_) (fun K442 hK442 => ?_)
              · refine go_callC1 rfl rfl rfl Try.func29 rfl (by decide) rfl (fun w M => toC_any w _ _ (mem_rdC M R0)) ?_
                intro ca443 cb443 cc443 cd443 ce443 cf443 cg443 ch443
                refine hK442 _ _ (fun w M => (mem_take 14 M :)) ?_
                refine ga_two 3 8 (by kernel_rfl) rfl rfl (.free rfl) (.free rfl) (fun K445 hK445 => ?_) (fun K445 hK445 => ?_)
                · refine go_callC1 rfl rfl rfl Try.func29 rfl (by decide) rfl (fun w M => toC_any w _ _ (mem_rdC M R1)) ?_
                  intro ca446 cb446 cc446 cd446 ce446 cf446 cg446 ch446
                  refine hK445 _ _ (fun w M => (mem_take 14 M :)) ?_
                  refine ga_two 4 8 (by kernel_rfl) rfl rfl (.free rfl) (.free rfl) (fun K448 hK448 => ?_) (fun K448 hK448 => ?_)
                  · refine go_callCI1 rfl rfl rfl Try.func36 rfl (by decide) rfl (fun w M => himpl w _ _ ((mem_ownC (n := 14) M rfl).rd) ((mem_ownC (n := 15) M rfl).rd)) ?_
                    intro ca449 cb449 cc449 cd449 ce449 cf449 cg449 ch449
                    refine hK448 _ _ (fun w M => (mem_take 14 M :)) ?_
                    refine ga_v 5 rfl (by kernel_rfl) (by kernel_rfl) (by kernel_rfl) (.free rfl) rfl rfl (qt_move rfl rfl) (fun _ _ _ h => h) ?_
                    refine ga_v 6 rfl (by kernel_rfl) (by kernel_rfl) (by kernel_rfl) (.free rfl) rfl rfl (qt_extract rfl rfl rfl) (fun _ _ _ h => h) ?_
                    refine ga_v 7 rfl (by kernel_rfl) (by kernel_rfl) (by kernel_rfl) (.free rfl) rfl rfl (qt_extract rfl rfl rfl) (fun _ _ _ h => h) ?_
                    refine ga_op 8 (by kernel_rfl) rfl (.free rfl) fun K452 hK452 => ?_
                    refine go_alloc (z := (.agg #[.int .i64 0, .slice none 0 0, .slice none 0 0, .slice none 0 0, .slice none 0 0])) (cs := [.int .i64 0, .slice none 0 0, .slice none 0 0, .slice none 0 0, .slice none 0 0]) rfl rfl rfl (fun w => by kernel_rfl) rfl ?_
                    intro B451
                    refine hK452 _ _ (fun w M => (mem_take 14 M :)) ?_
                    refine ga_op 9 (by kernel_rfl) rfl (.free rfl) fun K453 hK453 => ?_
                    refine go_storeS (n := 17) rfl rfl rfl rfl (by kernel_rfl) rfl rfl rfl ?_
                    refine hK453 _ _ (fun w M => (mem_take 14 M :)) ?_
                    refine ga_v 10 rfl (by kernel_rfl) (by kernel_rfl) (by kernel_rfl) (.free rfl) rfl rfl (qt_assign rfl rfl) (fun _ _ _ h => h) ?_
                    refine ga_done (by kernel_rfl) ?_
                    refine gk_then (hK441 _ _ ?_)
                    refine gc_seq fun K454 hK454 => ?_
                    refine gc_seq fun K455 hK455 => ?_
                    refine gc_region ?_
                    refine g_v (.free rfl) rfl rfl (qt_loadS (n := 17) rfl rfl Try.underlying26 rfl (by kernel_rfl) rfl) ?_
                    refine g_v (.free rfl) rfl rfl (qt_loadS (n := 2) rfl rfl Try.underlying26 rfl (by kernel_rfl) rfl) ?_
                    refine g_q (.free rfl) rfl rfl (qt_call rfl Try.func17 rfl (by decide) rfl (fun w M => eqC_refl_any w _ _ _ ((mem_ownC (n := 16) M rfl).rd) ((mem_ownC (n := 5) M rfl).rd))) ?_
                    refine g_v (.free rfl) rfl rfl (qt_not rfl rfl) ?_
                    refine g_v (.free rfl) rfl rfl (qt_move rfl rfl) ?_
                    refine g_v (.held _ _ _ rfl rfl rfl) rfl rfl (qt_move rfl rfl) ?_
                    refine g_v (.held _ _ _ rfl rfl rfl) rfl rfl (qt_move rfl rfl) ?_
                    refine g_v (.held _ _ _ rfl rfl rfl) rfl rfl (qt_neq_f rfl rfl rfl (fun h => h rfl)) ?_
                    refine g_v (.free rfl) rfl rfl (qt_pick_f rfl rfl rfl) ?_
                    refine g_nil ?_
                    refine gk_then (hK455 _ _ ?_)
                    refine gc_cond_f rfl ?_
                    refine gc_skip ?_
                    refine gk_then (hK454 _ _ ?_)
                    refine gc_seq fun K456 hK456 => ?_
                    refine gc_region ?_
                    refine g_v (.free rfl) rfl rfl (qt_assign rfl rfl) ?_
                    refine g_nil ?_
                    refine gk_then (hK456 _ _ ?_)
                    refine gc_seq fun K457 hK457 => ?_
                    refine gc_region ?_
                    refine g_v (.free rfl) rfl rfl (qt_loadS (n := 11) rfl rfl Try.underlying26 rfl (by kernel_rfl) rfl) ?_
                    refine g_v (.free rfl) rfl rfl (qt_move rfl rfl) ?_
                    refine g_q (.free rfl) rfl rfl (qt_call rfl Try.func21 rfl (by decide) rfl (fun w M => heldC_any w _ _ _ ((mem_ownC (n := 10) M rfl).rd) (by first | assumption | omega) (by first | assumption | omega))) ?_
                    refine g_v (.free rfl) rfl rfl (qt_assign rfl rfl) ?_
                    refine g_nil ?_
                    refine gk_then (hK457 _ _ ?_)
                    refine gc_seq fun K458 hK458 => ?_
                    refine gc_seq fun K459 hK459 => ?_
                    refine gc_region ?_
                    refine g_v (.free rfl) rfl rfl (qt_move rfl rfl) ?_
                    refine g_v (.free rfl) rfl rfl (qt_lss rfl rfl rfl) ?_
                    refine g_nil ?_
                    refine gk_then (hK459 _ _ ?_)
                    refine gc_cond rfl (fun hc34 => ?_) (fun hc34 => ?_)
                    · try simp only [decide_eq_true_eq, decide_eq_false_iff_not, Bool.not_eq_true', Bool.not_eq_false', Bool.not_eq_eq_eq_not, Bool.not_true, Bool.not_false, ne_eq, Decidable.not_not, Classical.not_not] at hc34
                      first | (exfalso; omega) | exact absurd rfl hc34 | (simp at hc34)
                    · try simp only [decide_eq_true_eq, decide_eq_false_iff_not, Bool.not_eq_true', Bool.not_eq_false', Bool.not_eq_eq_eq_not, Bool.not_true, Bool.not_false, ne_eq, Decidable.not_not, Classical.not_not] at hc34
                      refine gc_skip ?_
                      refine gk_then (hK458 _ _ ?_)
                      refine gc_seq fun K460 hK460 => ?_
                      refine gc_seq fun K461 hK461 => ?_
                      refine gc_region ?_
                      refine g_v (.free rfl) rfl rfl (qt_move rfl rfl) ?_
                      refine g_v (.free rfl) rfl rfl (qt_move rfl rfl) ?_
                      refine g_v (.free rfl) rfl rfl (qt_neq rfl rfl rfl) ?_
                      refine g_nil ?_
                      refine gk_then (hK461 _ _ ?_)
                      refine gc_cond rfl (fun hc35 => ?_) (fun hc35 => ?_)
                      · try simp only [decide_eq_true_eq, decide_eq_false_iff_not, Bool.not_eq_true', Bool.not_eq_false', Bool.not_eq_eq_eq_not, Bool.not_true, Bool.not_false, ne_eq, Decidable.not_not, Classical.not_not] at hc35
                        first | (exfalso; omega) | exact absurd rfl hc35 | (simp at hc35)
                      · try simp only [decide_eq_true_eq, decide_eq_false_iff_not, Bool.not_eq_true', Bool.not_eq_false', Bool.not_eq_eq_eq_not, Bool.not_true, Bool.not_false, ne_eq, Decidable.not_not, Classical.not_not] at hc35
                        refine gc_skip ?_
                        refine gk_then (hK460 _ _ ?_)
                        refine gc_seq fun K462 hK462 => ?_
                        refine gc_region ?_
                        refine g_v (.free rfl) rfl rfl (qt_assign rfl rfl) ?_
                        refine g_nil ?_
                        refine gk_then (hK462 _ _ ?_)
                        refine gc_ret ?_
                        refine ret_1 rfl rfl  (fun w M => ?_)
                        exact ⟨rfl, M.1⟩
                  · refine go_alloc (z := (.agg #[.int .i64 0, .slice none 0 0, .slice none 0 0, .slice none 0 0, .slice none 0 0])) (cs := [.int .i64 0, .slice none 0 0, .slice none 0 0, .slice none 0 0, .slice none 0 0]) rfl rfl rfl (fun w => by kernel_rfl) rfl ?_
                    intro B463
                    refine hK448 _ _ (fun w M => (mem_take 14 M :)) ?_
                    refine ga_op 4 (by kernel_rfl) rfl (.free rfl) fun K466 hK466 => ?_
                    refine go_callCI1 rfl rfl rfl Try.func36 rfl (by decide) rfl (fun w M => himpl w _ _ ((mem_ownC (n := 14) M rfl).rd) ((mem_ownC (n := 15) M rfl).rd)) ?_
                    intro ca465 cb465 cc465 cd465 ce465 cf465 cg465 ch465
                    refine hK466 _ _ (fun w M => (mem_take 14 M :)) ?_
                    refine ga_v 5 rfl (by kernel_rfl) (by kernel_rfl) (by kernel_rfl) (.free rfl) rfl rfl (qt_move rfl rfl) (fun _ _ _ h => h) ?_
                    refine ga_v 6 rfl (by kernel_rfl) (by kernel_rfl) (by kernel_rfl) (.free rfl) rfl rfl (qt_extract rfl rfl rfl) (fun _ _ _ h => h) ?_
                    refine ga_v 7 rfl (by kernel_rfl) (by kernel_rfl) (by kernel_rfl) (.free rfl) rfl rfl (qt_extract rfl rfl rfl) (fun _ _ _ h => h) ?_
                    refine ga_op 9 (by kernel_rfl) rfl (.free rfl) fun K467 hK467 => ?_
                    refine go_storeS (n := 16) rfl rfl rfl rfl (by kernel_rfl) rfl rfl rfl ?_
                    refine hK467 _ _ (fun w M => (mem_take 14 M :)) ?_
                    refine ga_v 10 rfl (by kernel_rfl) (by kernel_rfl) (by kernel_rfl) (.free rfl) rfl rfl (qt_assign rfl rfl) (fun _ _ _ h => h) ?_
                    refine ga_done (by kernel_rfl) ?_
                    refine gk_then (hK441 _ _ ?_)
                    refine gc_seq fun K468 hK468 => ?_
                    refine gc_seq fun K469 hK469 => ?_
                    refine gc_region ?_
                    refine g_v (.free rfl) rfl rfl (qt_loadS (n := 16) rfl rfl Try.underlying26 rfl (by kernel_rfl) rfl) ?_
                    refine g_v (.free rfl) rfl rfl (qt_loadS (n := 2) rfl rfl Try.underlying26 rfl (by kernel_rfl) rfl) ?_
                    refine g_q (.free rfl) rfl rfl (qt_call rfl Try.func17 rfl (by decide) rfl (fun w M => eqC_refl_any w _ _ _ ((mem_ownC (n := 17) M rfl).rd) ((mem_ownC (n := 5) M rfl).rd))) ?_
                    refine g_v (.free rfl) rfl rfl (qt_not rfl rfl) ?_
                    refine g_v (.free rfl) rfl rfl (qt_move rfl rfl) ?_
                    refine g_v (.held _ _ _ rfl rfl rfl) rfl rfl (qt_move rfl rfl) ?_
                    refine g_v (.held _ _ _ rfl rfl rfl) rfl rfl (qt_move rfl rfl) ?_
                    refine g_v (.held _ _ _ rfl rfl rfl) rfl rfl (qt_neq_f rfl rfl rfl (fun h => h rfl)) ?_
                    refine g_v (.free rfl) rfl rfl (qt_pick_f rfl rfl rfl) ?_
                    refine g_nil ?_
                    refine gk_then (hK469 _ _ ?_)
                    refine gc_cond_f rfl ?_
                    refine gc_skip ?_
                    refine gk_then (hK468 _ _ ?_)
                    refine gc_seq fun K470 hK470 => ?_
                    refine gc_region ?_
                    refine g_v (.free rfl) rfl rfl (qt_assign rfl rfl) ?_
                    refine g_nil ?_
                    refine gk_then (hK470 _ _ ?_)
                    refine gc_seq fun K471 hK471 => ?_
                    refine gc_region ?_
                    refine g_v (.free rfl) rfl rfl (qt_loadS (n := 11) rfl rfl Try.underlying26 rfl (by kernel_rfl) rfl) ?_
                    refine g_v (.free rfl) rfl rfl (qt_move rfl rfl) ?_
                    refine g_q (.free rfl) rfl rfl (qt_call rfl Try.func21 rfl (by decide) rfl (fun w M => heldC_any w _ _ _ ((mem_ownC (n := 10) M rfl).rd) (by first | assumption | omega) (by first | assumption | omega))) ?_
                    refine g_v (.free rfl) rfl rfl (qt_assign rfl rfl) ?_
                    refine g_nil ?_
                    refine gk_then (hK471 _ _ ?_)
                    refine gc_seq fun K472 hK472 => ?_
                    refine gc_seq fun K473 hK473 => ?_
                    refine gc_region ?_
                    refine g_v (.free rfl) rfl rfl (qt_move rfl rfl) ?_
                    refine g_v (.free rfl) rfl rfl (qt_lss rfl rfl rfl) ?_
                    refine g_nil ?_
                    refine gk_then (hK473 _ _ ?_)
                    refine gc_cond rfl (fun hc36 => ?_) (fun hc36 => ?_)
                    · try simp only [decide_eq_true_eq, decide_eq_false_iff_not, Bool.not_eq_true', Bool.not_eq_false', Bool.not_eq_eq_eq_not, Bool.not_true, Bool.not_false, ne_eq, Decidable.not_not, Classical.not_not] at hc36
                      first | (exfalso; omega) | exact absurd rfl hc36 | (simp at hc36)
                    · try simp only [decide_eq_true_eq, decide_eq_false_iff_not, Bool.not_eq_true', Bool.not_eq_false', Bool.not_eq_eq_eq_not, Bool.not_true, Bool.not_false, ne_eq, Decidable.not_not, Classical.not_not] at hc36
                      refine gc_skip ?_
                      refine gk_then (hK472 _ _ ?_)
                      refine gc_seq fun K474 hK474 => ?_
                      refine gc_seq fun K475 hK475 => ?_
                      refine gc_region ?_
                      refine g_v (.free rfl) rfl rfl (qt_move rfl rfl) ?_
                      refine g_v (.free rfl) rfl rfl (qt_move rfl rfl) ?_
                      refine g_v (.free rfl) rfl rfl (qt_neq rfl rfl rfl) ?_
                      refine g_nil ?_
                      refine gk_then (hK475 _ _ ?_)
                      refine gc_cond rfl (fun hc37 => ?_) (fun hc37 => ?_)
                      · try simp only [decide_eq_true_eq, decide_eq_false_iff_not, Bool.not_eq_true', Bool.not_eq_false', Bool.not_eq_eq_eq_not, Bool.not_true, Bool.not_false, ne_eq, Decidable.not_not, Classical.not_not] at hc37
                        first | (exfalso; omega) | exact absurd rfl hc37 | (simp at hc37)
                      · try simp only [decide_eq_true_eq, decide_eq_false_iff_not, Bool.not_eq_true', Bool.not_eq_false', Bool.not_eq_eq_eq_not, Bool.not_true, Bool.not_false, ne_eq, Decidable.not_not, Classical.not_not] at hc37
                        refine gc_skip ?_
                        refine gk_then (hK474 _ _ ?_)
                        refine gc_seq fun K476 hK476 => ?_
                        refine gc_region ?_
                        refine g_v (.free rfl) rfl rfl (qt_assign rfl rfl) ?_
                        refine g_nil ?_
                        refine gk_then (hK476 _ _ ?_)
                        refine gc_ret ?_
                        refine ret_1 rfl rfl  (fun w M => ?_)
                        exact ⟨rfl, M.1⟩
                · refine go_alloc (z := (.agg #[.int .i64 0, .slice none 0 0, .slice none 0 0, .slice none 0 0, .slice none 0 0])) (cs := [.int .i64 0, .slice none 0 0, .slice none 0 0, .slice none 0 0, .slice none 0 0]) rfl rfl rfl (fun w => by kernel_rfl) rfl ?_
                  intro B477
                  refine hK445 _ _ (fun w M => (mem_take 14 M :)) ?_
                  refine ga_op 3 (by kernel_rfl) rfl (.free rfl) fun K480 hK480 => ?_
                  refine go_callC1 rfl rfl rfl Try.func29 rfl (by decide) rfl (fun w M => toC_any w _ _ (mem_rdC M R1)) ?_
                  intro ca479 cb479 cc479 cd479 ce479 cf479 cg479 ch479
                  refine hK480 _ _ (fun w M => (mem_take 14 M :)) ?_
                  refine ga_op 4 (by kernel_rfl) rfl (.free rfl) fun K482 hK482 => ?_
                  refine go_callCI1 rfl rfl rfl Try.func36 rfl (by decide) rfl (fun w M => himpl w _ _ ((mem_ownC (n := 14) M rfl).rd) ((mem_ownC (n := 16) M rfl).rd)) ?_
                  intro ca481 cb481 cc481 cd481 ce481 cf481 cg481 ch481
                  refine hK482 _ _ (fun w M => (mem_take 14 M :)) ?_
                  refine ga_v 5 rfl (by kernel_rfl) (by kernel_rfl) (by kernel_rfl) (.free rfl) rfl rfl (qt_move rfl rfl) (fun _ _ _ h => h) ?_
                  refine ga_v 6 rfl (by kernel_rfl) (by kernel_rfl) (by kernel_rfl) (.free rfl) rfl rfl (qt_extract rfl rfl rfl) (fun _ _ _ h => h) ?_
                  refine ga_v 7 rfl (by kernel_rfl) (by kernel_rfl) (by kernel_rfl) (.free rfl) rfl rfl (qt_extract rfl rfl rfl) (fun _ _ _ h => h) ?_
                  refine ga_op 9 (by kernel_rfl) rfl (.free rfl) fun K483 hK483 => ?_
                  refine go_storeS (n := 15) rfl rfl rfl rfl (by kernel_rfl) rfl rfl rfl ?_
                  refine hK483 _ _ (fun w M => (mem_take 14 M :)) ?_
                  refine ga_v 10 rfl (by kernel_rfl) (by kernel_rfl) (by kernel_rfl) (.free rfl) rfl rfl (qt_assign rfl rfl) (fun _ _ _ h => h) ?_
                  refine ga_done (by kernel_rfl) ?_
                  refine gk_then (hK441 _ _ ?_)
                  refine gc_seq fun K484 hK484 => ?_
                  refine gc_seq fun K485 hK485 => ?_
                  refine gc_region ?_
                  refine g_v (.free rfl) rfl rfl (qt_loadS (n := 15) rfl rfl Try.underlying26 rfl (by kernel_rfl) rfl) ?_
                  refine g_v (.free rfl) rfl rfl (qt_loadS (n := 2) rfl rfl Try.underlying26 rfl (by kernel_rfl) rfl) ?_
                  refine g_q (.free rfl) rfl rfl (qt_call rfl Try.func17 rfl (by decide) rfl (fun w M => eqC_refl_any w _ _ _ ((mem_ownC (n := 17) M rfl).rd) ((mem_ownC (n := 5) M rfl).rd))) ?_
                  refine g_v (.free rfl) rfl rfl (qt_not rfl rfl) ?_
                  refine g_v (.free rfl) rfl rfl (qt_move rfl rfl) ?_
                  refine g_v (.held _ _ _ rfl rfl rfl) rfl rfl (qt_move rfl rfl) ?_
                  refine g_v (.held _ _ _ rfl rfl rfl) rfl rfl (qt_move rfl rfl) ?_
                  refine g_v (.held _ _ _ rfl rfl rfl) rfl rfl (qt_neq_f rfl rfl rfl (fun h => h rfl)) ?_
                  refine g_v (.free rfl) rfl rfl (qt_pick_f rfl rfl rfl) ?_
                  refine g_nil ?_
                  refine gk_then (hK485 _ _ ?_)
                  refine gc_cond_f rfl ?_
                  refine gc_skip ?_
                  refine gk_then (hK484 _ _ ?_)
                  refine gc_seq fun K486 hK486 => ?_
                  refine gc_region ?_
                  refine g_v (.free rfl) rfl rfl (qt_assign rfl rfl) ?_
                  refine g_nil ?_
                  refine gk_then (hK486 _ _ ?_)
                  refine gc_seq fun K487 hK487 => ?_
                  refine gc_region ?_
                  refine g_v (.free rfl) rfl rfl (qt_loadS (n := 11) rfl rfl Try.underlying26 rfl (by kernel_rfl) rfl) ?_
                  refine g_v (.free rfl) rfl rfl (qt_move rfl rfl) ?_
                  refine g_q (.free rfl) rfl rfl (qt_call rfl Try.func21 rfl (by decide) rfl (fun w M => heldC_any w _ _ _ ((mem_ownC (n := 10) M rfl).rd) (by first | assumption | omega) (by first | assumption | omega))) ?_
                  refine g_v (.free rfl) rfl rfl (qt_assign rfl rfl) ?_
                  refine g_nil ?_
                  refine gk_then (hK487 _ _ ?_)
                  refine gc_seq fun K488 hK488 => ?_
                  refine gc_seq fun K489 hK489 => ?_
                  refine gc_region ?_
                  refine g_v (.free rfl) rfl rfl (qt_move rfl rfl) ?_
                  refine g_v (.free rfl) rfl rfl (qt_lss rfl rfl rfl) ?_
                  refine g_nil ?_
                  refine gk_then (hK489 _ _ ?_)
                  refine gc_cond rfl (fun hc38 => ?_) (fun hc38 => ?_)
                  · try simp only [decide_eq_true_eq, decide_eq_false_iff_not, Bool.not_eq_true', Bool.not_eq_false', Bool.not_eq_eq_eq_not, Bool.not_true, Bool.not_false, ne_eq, Decidable.not_not, Classical.not_not] at hc38
                    first | (exfalso; omega) | exact absurd rfl hc38 | (simp at hc38)
                  · try simp only [decide_eq_true_eq, decide_eq_false_iff_not, Bool.not_eq_true', Bool.not_eq_false', Bool.not_eq_eq_eq_not, Bool.not_true, Bool.not_false, ne_eq, Decidable.not_not, Classical.not_not] at hc38
                    refine gc_skip ?_
                    refine gk_then (hK488 _ _ ?_)
                    refine gc_seq fun K490 hK490 => ?_
                    refine gc_seq fun K491 hK491 => ?_
                    refine gc_region ?_
                    refine g_v (.free rfl) rfl rfl (qt_move rfl rfl) ?_
                    refine g_v (.free rfl) rfl rfl (qt_move rfl rfl) ?_
                    refine g_v (.free rfl) rfl rfl (qt_neq rfl rfl rfl) ?_
                    refine g_nil ?_
                    refine gk_then (hK491 _ _ ?_)
                    refine gc_cond rfl (fun hc39 => ?_) (fun hc39 => ?_)
                    · try simp only [decide_eq_true_eq, decide_eq_false_iff_not, Bool.not_eq_true', Bool.not_eq_false', Bool.not_eq_eq_eq_not, Bool.not_true, Bool.not_false, ne_eq, Decidable.not_not, Classical.not_not] at hc39
                      first | (exfalso; omega) | exact absurd rfl hc39 | (simp at hc39)
                    · try simp only [decide_eq_true_eq, decide_eq_false_iff_not, Bool.not_eq_true', Bool.not_eq_false', Bool.not_eq_eq_eq_not, Bool.not_true, Bool.not_false, ne_eq, Decidable.not_not, Classical.not_not] at hc39
                      refine gc_skip ?_
                      refine gk_then (hK490 _ _ ?_)
                      refine gc_seq fun K492 hK492 => ?_
                      refine gc_region ?_
                      refine g_v (.free rfl) rfl rfl (qt_assign rfl rfl) ?_
                      refine g_nil ?_
                      refine gk_then (hK492 _ _ ?_)
                      refine gc_ret ?_
                      refine ret_1 rfl rfl  (fun w M => ?_)
                      exact ⟨rfl, M.1⟩
              · refine go_alloc (z := (.agg #[.int .i64 0, .slice none 0 0, .slice none 0 0, .slice none 0 0, .slice none 0 0])) (cs := [.int .i64 0, .slice none 0 0, .slice none 0 0, .slice none 0 0, .slice none 0 0]) rfl rfl rfl (fun w => by kernel_rfl) rfl ?_
                intro B493
                refine hK442 _ _ (fun w M => (mem_take 14 M :)) ?_
                refine ga_op 1 (by kernel_rfl) rfl (.free rfl) fun K496 hK496 => ?_
                refine go_callC1 rfl rfl rfl Try.func29 rfl (by decide) rfl (fun w M => toC_any w _ _ (mem_rdC M R0)) ?_
                intro ca495 cb495 cc495 cd495 ce495 cf495 cg495 ch495
                refine hK496 _ _ (fun w M => (mem_take 14 M :)) ?_
                refine ga_op 3 (by kernel_rfl) rfl (.free rfl) fun K498 hK498 => ?_
                refine go_callC1 rfl rfl rfl Try.func29 rfl (by decide) rfl (fun w M => toC_any w _ _ (mem_rdC M R1)) ?_
                intro ca497 cb497 cc497 cd497 ce497 cf497 cg497 ch497
                refine hK498 _ _ (fun w M => (mem_take 14 M :)) ?_
                refine ga_op 4 (by kernel_rfl) rfl (.free rfl) fun K500 hK500 => ?_
                refine go_callCI1 rfl rfl rfl Try.func36 rfl (by decide) rfl (fun w M => himpl w _ _ ((mem_ownC (n := 15) M rfl).rd) ((mem_ownC (n := 16) M rfl).rd)) ?_
                intro ca499 cb499 cc499 cd499 ce499 cf499 cg499 ch499
                refine hK500 _ _ (fun w M => (mem_take 14 M :)) ?_
                refine ga_v 5 rfl (by kernel_rfl) (by kernel_rfl) (by kernel_rfl) (.free rfl) rfl rfl (qt_move rfl rfl) (fun _ _ _ h => h) ?_
                refine ga_v 6 rfl (by kernel_rfl) (by kernel_rfl) (by kernel_rfl) (.free rfl) rfl rfl (qt_extract rfl rfl rfl) (fun _ _ _ h => h) ?_
                refine ga_v 7 rfl (by kernel_rfl) (by kernel_rfl) (by kernel_rfl) (.free rfl) rfl rfl (qt_extract rfl rfl rfl) (fun _ _ _ h => h) ?_
                refine ga_op 9 (by kernel_rfl) rfl (.free rfl) fun K501 hK501 => ?_
                refine go_storeS (n := 14) rfl rfl rfl rfl (by kernel_rfl) rfl rfl rfl ?_
                refine hK501 _ _ (fun w M => (mem_take 14 M :)) ?_
                refine ga_v 10 rfl (by kernel_rfl) (by kernel_rfl) (by kernel_rfl) (.free rfl) rfl rfl (qt_assign rfl rfl) (fun _ _ _ h => h) ?_
                refine ga_done (by kernel_rfl) ?_
                refine gk_then (hK441 _ _ ?_)
                refine gc_seq fun K502 hK502 => ?_
                refine gc_seq fun K503 hK503 => ?_
                refine gc_region ?_
                refine g_v (.free rfl) rfl rfl (qt_loadS (n := 14) rfl rfl Try.underlying26 rfl (by kernel_rfl) rfl) ?_
                refine g_v (.free rfl) rfl rfl (qt_loadS (n := 2) rfl rfl Try.underlying26 rfl (by kernel_rfl) rfl) ?_
                refine g_q (.free rfl) rfl rfl (qt_call rfl Try.func17 rfl (by decide) rfl (fun w M => eqC_refl_any w _ _ _ ((mem_ownC (n := 17) M rfl).rd) ((mem_ownC (n := 5) M rfl).rd))) ?_
                refine g_v (.free rfl) rfl rfl (qt_not rfl rfl) ?_
                refine g_v (.free rfl) rfl rfl (qt_move rfl rfl) ?_
                refine g_v (.held _ _ _ rfl rfl rfl) rfl rfl (qt_move rfl rfl) ?_
                refine g_v (.held _ _ _ rfl rfl rfl) rfl rfl (qt_move rfl rfl) ?_
                refine g_v (.held _ _ _ rfl rfl rfl) rfl rfl (qt_neq_f rfl rfl rfl (fun h => h rfl)) ?_
                refine g_v (.free rfl) rfl rfl (qt_pick_f rfl rfl rfl) ?_
                refine g_nil ?_
                refine gk_then (hK503 _ _ ?_)
                refine gc_cond_f rfl ?_
                refine gc_skip ?_
                refine gk_then (hK502 _ _ ?_)
                refine gc_seq fun K504 hK504 => ?_
                refine gc_region ?_
                refine g_v (.free rfl) rfl rfl (qt_assign rfl rfl) ?_
                refine g_nil ?_
                refine gk_then (hK504 _ _ ?_)
                refine gc_seq fun K505 hK505 => ?_
                refine gc_region ?_
                refine g_v (.free rfl) rfl rfl (qt_loadS (n := 11) rfl rfl Try.underlying26 rfl (by kernel_rfl) rfl) ?_
                refine g_v (.free rfl) rfl rfl (qt_move rfl rfl) ?_
                refine g_q (.free rfl) rfl rfl (qt_call rfl Try.func21 rfl (by decide) rfl (fun w M => heldC_any w _ _ _ ((mem_ownC (n := 10) M rfl).rd) (by first | assumption | omega) (by first | assumption | omega))) ?_
                refine g_v (.free rfl) rfl rfl (qt_assign rfl rfl) ?_
                refine g_nil ?_
                refine gk_then (hK505 _ _ ?_)
                refine gc_seq fun K506 hK506 => ?_
                refine gc_seq fun K507 hK507 => ?_
                refine gc_region ?_
                refine g_v (.free rfl) rfl rfl (qt_move rfl rfl) ?_
                refine g_v (.free rfl) rfl rfl (qt_lss rfl rfl rfl) ?_
                refine g_nil ?_
                refine gk_then (hK507 _ _ ?_)
                refine gc_cond rfl (fun hc40 => ?_) (fun hc40 => ?_)
                · try simp only [decide_eq_true_eq, decide_eq_false_iff_not, Bool.not_eq_true', Bool.not_eq_false', Bool.not_eq_eq_eq_not, Bool.not_true, Bool.not_false, ne_eq, Decidable.not_not, Classical.not_not] at hc40
                  first | (exfalso; omega) | exact absurd rfl hc40 | (simp at hc40)
                · try simp only [decide_eq_true_eq, decide_eq_false_iff_not, Bool.not_eq_true', Bool.not_eq_false', Bool.not_eq_eq_eq_not, Bool.not_true, Bool.not_false, ne_eq, Decidable.not_not, Classical.not_not] at hc40
                  refine gc_skip ?_
                  refine gk_then (hK506 _ _ ?_)
                  refine gc_seq fun K508 hK508 => ?_
                  refine gc_seq fun K509 hK509 => ?_
                  refine gc_region ?_
                  refine g_v (.free rfl) rfl rfl (qt_move rfl rfl) ?_
                  refine g_v (.free rfl) rfl rfl (qt_move rfl rfl) ?_
                  refine g_v (.free rfl) rfl rfl (qt_neq rfl rfl rfl) ?_
                  refine g_nil ?_
                  refine gk_then (hK509 _ _ ?_)
                  refine gc_cond rfl (fun hc41 => ?_) (fun hc41 => ?_)
                  · try simp only [decide_eq_true_eq, decide_eq_false_iff_not, Bool.not_eq_true', Bool.not_eq_false', Bool.not_eq_eq_eq_not, Bool.not_true, Bool.not_false, ne_eq, Decidable.not_not, Classical.not_not] at hc41
                    first | (exfalso; omega) | exact absurd rfl hc41 | (simp at hc41)
                  · try simp only [decide_eq_true_eq, decide_eq_false_iff_not, Bool.not_eq_true', Bool.not_eq_false', Bool.not_eq_eq_eq_not, Bool.not_true, Bool.not_false, ne_eq, Decidable.not_not, Classical.not_not] at hc41
                    refine gc_skip ?_
                    refine gk_then (hK508 _ _ ?_)
                    refine gc_seq fun K510 hK510 => ?_
                    refine gc_region ?_
                    refine g_v (.free rfl) rfl rfl (qt_assign rfl rfl) ?_
                    refine g_nil ?_
                    refine gk_then (hK510 _ _ ?_)
                    refine gc_ret ?_
                    refine ret_1 rfl rfl  (fun w M => ?_)
                    exact ⟨rfl, M.1⟩

set_option maxHeartbeats 1000000 in
set_option maxRecDepth 100000 in
theorem big0 (w : World) (v0 : Value) (a0 : Cat) (v1 : Value) (a1 : Cat) (r0 : Cat) (r1 : Int) (h0 : InC w v0 a0) (h1 : InC w v1 a1) (nl : ¬ (szM a0 ≤ 1048576)) :
    Calls Try.prog 8 #[v0, v1] w (RetB w true) := by
  have I0 := h0
  obtain ⟨pa0, pb0, pc0, pd0, pe0, pf0, pg0, ph0, rfl⟩ := h0.form
  have mz0 := mz_le a0
  have I1 := h1
  obtain ⟨pa1, pb1, pc1, pd1, pe1, pf1, pg1, ph1, rfl⟩ := h1.form
  have mz1 := mz_le a1
  go_enter Try.func8, Try.ntmps8
  refine gc_enter (N := 119) rfl (look_cons (k := 0) rfl (look_cons (k := 1) rfl (look_nil _))) ?_
  refine gc_seq fun K1 hK1 => ?_
  refine gc_region ?_
  refine g_op (.free rfl) fun K3 hK3 => ?_
  refine go_box rfl rfl rfl rfl rfl ?_
  intro B2
  refine hK3 _ _ ?_
  refine g_op (.free rfl) fun K5 hK5 => ?_
  refine go_box rfl rfl rfl rfl rfl ?_
  intro B4
  refine hK5 _ _ ?_
  refine g_v (.free rfl) rfl rfl (qt_assign rfl rfl) ?_
  refine g_nil ?_
  refine gk_then (hK1 _ _ ?_)
  refine gc_seq fun K6 hK6 => ?_
  refine gc_region ?_
  refine g_v (.free rfl) rfl rfl (qt_assign rfl rfl) ?_
  refine g_nil ?_
  refine gk_then (hK6 _ _ ?_)
  refine gc_seq fun K7 hK7 => ?_
  refine gc_region ?_
  refine g_v (.free rfl) rfl rfl (qt_loadS (n := 0) rfl rfl Try.underlying39 rfl (by kernel_rfl) rfl) ?_
  refine g_v (.free rfl) rfl rfl (qt_move rfl rfl) ?_
  refine g_q (.free rfl) rfl rfl (qt_call rfl Try.func27 rfl (by decide) rfl (fun w M => szC_gt w _ _ _ (inC_below M.1 I0) (by first | assumption | omega) (by first | assumption | omega) (by first | assumption | omega))) ?_
  refine g_v (.free rfl) rfl rfl (qt_assign rfl rfl) ?_
  refine g_nil ?_
  refine gk_then (hK7 _ _ ?_)
  refine gc_seq fun K8 hK8 => ?_
  refine gc_seq fun K9 hK9 => ?_
  refine gc_region ?_
  refine g_v (.free rfl) rfl rfl (qt_move rfl rfl) ?_
  refine g_v (.free rfl) rfl rfl (qt_lss_t rfl rfl rfl (by decide)) ?_
  refine g_nil ?_
  refine gk_then (hK9 _ _ ?_)
  refine gc_cond_t rfl ?_
  refine gc_seq fun K10 hK10 => ?_
  refine gc_region ?_
  refine g_v (.free rfl) rfl rfl (qt_assign rfl rfl) ?_
  refine g_nil ?_
  refine gk_then (hK10 _ _ ?_)
  refine gc_ret ?_
  refine gk_then_ret ?_
  refine ret_1 rfl rfl  (fun w M => ?_)
  exact ⟨rfl, M.1⟩

set_option maxHeartbeats 1000000 in
set_option maxRecDepth 100000 in
theorem big1 (w : World) (v0 : Value) (a0 : Cat) (v1 : Value) (a1 : Cat) (r0 : Cat) (r1 : Int) (h0 : InC w v0 a0) (h1 : InC w v1 a1) (l0 : szM a0 ≤ 1048576) (nl : ¬ (szM a0 + szM a1 ≤ 1048576)) :
    Calls Try.prog 8 #[v0, v1] w (RetB w true) := by
  have I0 := h0
  obtain ⟨pa0, pb0, pc0, pd0, pe0, pf0, pg0, ph0, rfl⟩ := h0.form
  have mz0 := mz_le a0
  have I1 := h1
  obtain ⟨pa1, pb1, pc1, pd1, pe1, pf1, pg1, ph1, rfl⟩ := h1.form
  have mz1 := mz_le a1
  go_enter Try.func8, Try.ntmps8
  refine gc_enter (N := 119) rfl (look_cons (k := 0) rfl (look_cons (k := 1) rfl (look_nil _))) ?_
  refine gc_seq fun K1 hK1 => ?_
  refine gc_region ?_
  refine g_op (.free rfl) fun K3 hK3 => ?_
  refine go_box rfl rfl rfl rfl rfl ?_
  intro B2
  refine hK3 _ _ ?_
  refine g_op (.free rfl) fun K5 hK5 => ?_
  refine go_box rfl rfl rfl rfl rfl ?_
  intro B4
  refine hK5 _ _ ?_
  refine g_v (.free rfl) rfl rfl (qt_assign rfl rfl) ?_
  refine g_nil ?_
  refine gk_then (hK1 _ _ ?_)
  refine gc_seq fun K6 hK6 => ?_
  refine gc_region ?_
  refine g_v (.free rfl) rfl rfl (qt_assign rfl rfl) ?_
  refine g_nil ?_
  refine gk_then (hK6 _ _ ?_)
  refine gc_seq fun K7 hK7 => ?_
  refine gc_region ?_
  refine g_v (.free rfl) rfl rfl (qt_loadS (n := 0) rfl rfl Try.underlying39 rfl (by kernel_rfl) rfl) ?_
  refine g_v (.free rfl) rfl rfl (qt_move rfl rfl) ?_
  refine g_q (.free rfl) rfl rfl (qt_call rfl Try.func27 rfl (by decide) rfl (fun w M => szC_le w _ _ _ (inC_below M.1 I0) (by first | assumption | omega) (by first | assumption | omega) (by first | assumption | omega))) ?_
  refine g_v (.free rfl) rfl rfl (qt_assign rfl rfl) ?_
  refine g_nil ?_
  refine gk_then (hK7 _ _ ?_)
  refine gc_seq fun K8 hK8 => ?_
  refine gc_seq fun K9 hK9 => ?_
  refine gc_region ?_
  refine g_v (.free rfl) rfl rfl (qt_move rfl rfl) ?_
  refine g_v (.free rfl) rfl rfl (qt_lss rfl rfl rfl) ?_
  refine g_nil ?_
  refine gk_then (hK9 _ _ ?_)
  refine gc_cond rfl (fun hc0 => ?_) (fun hc0 => ?_)
  · try simp only [decide_eq_true_eq, decide_eq_false_iff_not, Bool.not_eq_true', Bool.not_eq_false', Bool.not_eq_eq_eq_not, Bool.not_true, Bool.not_false, ne_eq, Decidable.not_not, Classical.not_not] at hc0
    first | (exfalso; omega) | exact absurd rfl hc0 | (simp at hc0)
  · try simp only [decide_eq_true_eq, decide_eq_false_iff_not, Bool.not_eq_true', Bool.not_eq_false', Bool.not_eq_eq_eq_not, Bool.not_true, Bool.not_false, ne_eq, Decidable.not_not, Classical.not_not] at hc0
    refine gc_skip ?_
    refine gk_then (hK8 _ _ ?_)
    refine gc_seq fun K10 hK10 => ?_
    refine gc_region ?_
    refine g_v (.free rfl) rfl rfl (qt_loadS (n := 1) rfl rfl Try.underlying39 rfl (by kernel_rfl) rfl) ?_
    refine g_v (.free rfl) rfl rfl (qt_move rfl rfl) ?_
    refine g_q (.free rfl) rfl rfl (qt_call rfl Try.func27 rfl (by decide) rfl (fun w M => szC_gt w _ _ _ (inC_below M.1 I1) (by first | assumption | omega) (by first | assumption | omega) (by first | assumption | omega))) ?_
    refine g_v (.free rfl) rfl rfl (qt_assign rfl rfl) ?_
    refine g_nil ?_
    refine gk_then (hK10 _ _ ?_)
    refine gc_seq fun K11 hK11 => ?_
    refine gc_seq fun K12 hK12 => ?_
    refine gc_region ?_
    refine g_v (.free rfl) rfl rfl (qt_move rfl rfl) ?_
    refine g_v (.free rfl) rfl rfl (qt_lss_t rfl rfl rfl (by decide)) ?_
    refine g_nil ?_
    refine gk_then (hK12 _ _ ?_)
    refine gc_cond_t rfl ?_
    refine gc_seq fun K13 hK13 => ?_
    refine gc_region ?_
    refine g_v (.free rfl) rfl rfl (qt_assign rfl rfl) ?_
    refine g_nil ?_
    refine gk_then (hK13 _ _ ?_)
    refine gc_ret ?_
    refine gk_then_ret ?_
    refine ret_1 rfl rfl  (fun w M => ?_)
    exact ⟨rfl, M.1⟩

theorem walk (w : World) (v0 : Value) (a0 : Cat) (v1 : Value) (a1 : Cat) (r0 : Cat) (r1 : Int) (h0 : InC w v0 a0) (h1 : InC w v1 a1) (hr0 : mzC r0 ≤ 1152921504606846) (hspec : (∀ (w : World) (v0 : Value) (v1 : Value), RdC w v0 a0 → RdC w v1 a1 → Calls Try.prog 35 #[v0, v1] w (RetCI w r0 r1))) (himpl : (∀ (w : World) (v0 : Value) (v1 : Value), RdC w v0 a0 → RdC w v1 a1 → Calls Try.prog 36 #[v0, v1] w (RetCI w r0 r1))) :
    Calls Try.prog 8 #[v0, v1] w (RetB w true) := by
  by_cases l0 : szM a0 ≤ 1048576
  rotate_left
  · exact big0 w v0 a0 v1 a1 r0 r1 h0 h1 l0
  by_cases l1 : szM a0 + szM a1 ≤ 1048576
  rotate_left
  · exact big1 w v0 a0 v1 a1 r0 r1 h0 h1 l0 l1
  exact main w v0 a0 v1 a1 r0 r1 h0 l0 h1 l1 hr0 hspec himpl

set_option maxRecDepth 100000 in
theorem lifted (os : Os) (started : os.Started) (H : Type) (enc : TypeId × Value → H) :
    ReturnsInHanded {} Try.checked os 8 .any (Rows.fnExactJoinCategorySpec.pre6 enc Try.prog Try.f8 Rows.fnExactJoinCategoryRow.domain false) (Rows.fnExactJoinCategorySpec.post enc Try.prog Try.f8 false true false false) := by
  refine returnsInHanded_of_change (C := Try.checked) own started (by kernel_rfl) Try.func8
    (ChangeSpec.witness6 (enc := enc) (C := Try.checked) false ⟨#[], #[.agg #[.int .i64 0, .slice none 0 0, .slice none 0 0, .slice none 0 0, .slice none 0 0], .agg #[.int .i64 0, .slice none 0 0, .slice none 0 0, .slice none 0 0, .slice none 0 0]], []⟩ 8 (by kernel_rfl) (by kernel_rfl) (by kernel_rfl) (by kernel_rfl)) ?_
  intro W base args ds gs before hval0 hW _ _
  have hval : ∀ (j : Nat) t v, Try.f8.params[j]? = some t → args[j]? = some v → Value.okWide Try.prog W .any base t v := hval0
  have hW' := hW
  obtain ⟨p, q, hA0, hV, rfl, _, _⟩ := hW
  have hA : DataW.TrodAll enc Try.prog W 0 (fun _ => true) true Try.f8.params.toList args.toList ds p := hA0
  rw [Try.params8] at hA hval
  obtain ⟨v0, vs0, d0, ds0, p0, q0, hargs, rfl, rfl, t0, s0⟩ := trodAll_cons hA
  obtain ⟨v1, vs1, d1, ds1, p1, q1, rfl, rfl, rfl, t1, s1⟩ := trodAll_cons s0
  obtain ⟨rfl, rfl, rfl⟩ := trodAll_nil s1
  obtain rfl : args = #[v0, v1] := by cases args; simp_all
  obtain ⟨rfl, rfl⟩ := trodVars_none hV
  obtain ⟨a0, h0⟩ := open_inC (hval 0 39 v0 rfl rfl) t0
  obtain ⟨a1, h1⟩ := open_inC (hval 1 39 v1 rfl rfl) t1
  clear hA0 hval0
  refine (walk W v0 a0 v1 a1 (fJoinCategory a0 a1).1 (fJoinCategory a0 a1).2 h0 h1 (bound_JoinCategory a0 a1) (fun u v0 v1 k0 k1 => spec_JoinCategory u v0 a0 v1 a1 k0 k1) (fun u v0 v1 k0 k1 => impl_JoinCategory u v0 a0 v1 a1 k0 k1)).mono fun e W' ⟨he, hg⟩ => ?_
  subst he
  exact ⟨_, rfl, law_post rfl (by kernel_rfl) hW' (by kernel_rfl) rfl rfl rfl hg⟩

theorem over : Rows.fnExactJoinCategoryRow.holds Try.pinned (OpenSpec.ofChange Rows.fnExactJoinCategorySpec) :=
  OpenClaim.holds_of_wide 8 Try.f8 rfl rfl rfl rfl rfl rfl rfl ⟨rfl, rfl, rfl, rfl, rfl⟩ rfl rfl rfl rfl rfl (by kernel_rfl) Try.func8 (by kernel_rfl)
    (of_decide_eq_true (by kernel_rfl)) (by unfold Func.isWrapper; first | (rw [if_pos (by decide +kernel)]; kernel_rfl) | (rw [if_neg (by decide +kernel)]; exact ⟨rfl, rfl⟩))
    (fun os started H enc _ => lifted os started H enc)

theorem proved : Rows.FnExactJoinCategorySaid := over
end Go.Proofs.Ytdgffiilalabeab.exactJoinCategory
