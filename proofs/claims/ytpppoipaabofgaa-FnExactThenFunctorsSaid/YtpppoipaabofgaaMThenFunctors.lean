
/- The walks of the exact law of ThenFunctors: its model and its program do the same, in memory of their own. Written by wip/tools/genlaw.py. -/
import Derived.Test.YtpppoipaabofgaaBase
import Derived.Test.YtpppoipaabofgaaLawC
import Derived.Test.YtpppoipaabofgaaRul4
import Derived.Test.YtpppoipaabofgaaFunL
import Derived.Test.YtpppoipaabofgaaThF
set_option linter.unusedSimpArgs false
set_option linter.unusedVariables false
set_option linter.unusedSectionVars false
namespace Go.Proofs.Ytpppoipaabofgaa.exactThenFunctors
open Go.ChangeShapes Go.WideShapes Go.ChangeAt Go.RowKit
set_option maxHeartbeats 4000000 in
set_option maxRecDepth 100000 in
theorem main (w : World) (v0 : Value) (a0 : Fct) (v1 : Value) (a1 : Fct) (r0 : Fct) (r1 : Int) (h0 : InF w v0 a0) (l0 : szFn a0 ≤ 1048576) (h1 : InF w v1 a1) (l1 : szFn a0 + szFn a1 ≤ 1048576) (hr0 : mzF r0 ≤ 3500000000000000) (hspec : (∀ (w : World) (v0 : Value) (v1 : Value), RdF w v0 a0 → RdF w v1 a1 → Calls Try.prog 40 #[v0, v1] w (RetFI w r0 r1))) (himpl : (∀ (w : World) (v0 : Value) (v1 : Value), RdF w v0 a0 → RdF w v1 a1 → Calls Try.prog 41 #[v0, v1] w (RetFI w r0 r1))) :
    Calls Try.prog 12 #[v0, v1] w (RetB w true) := by
  have R0 := h0.rd (by omega)
  have mz0 := mzF_le a0
  have I0 := h0
  obtain ⟨px1_0, px2_0, px3_0, px4_0, px5_0, px6_0, px7_0, px8_0, px9_0, px10_0, pk1_0, pk2_0, pk3_0, pk4_0, pk5_0, pk6_0, pk7_0, pk8_0, pk9_0, pk10_0, rfl, _⟩ := h0.form
  have R1 := h1.rd (by omega)
  have mz1 := mzF_le a1
  have I1 := h1
  obtain ⟨px1_1, px2_1, px3_1, px4_1, px5_1, px6_1, px7_1, px8_1, px9_1, px10_1, pk1_1, pk2_1, pk3_1, pk4_1, pk5_1, pk6_1, pk7_1, pk8_1, pk9_1, pk10_1, rfl, _⟩ := h1.form
  go_enter Try.func12, Try.ntmps12
  refine gc_enter (N := 119) rfl (look_cons (k := 0) rfl (look_cons (k := 1) rfl (look_nil _))) ?_
  refine gc_seq fun K1 hK1 => ?_
  refine gc_region ?_
  refine g_op (.free rfl) fun K3 hK3 => ?_
  refine go_box rfl rfl rfl rfl rfl ?_
  intro B2
  refine hK3 _ _ ?_
  refine g_op (.free rfl) fun K5 hK5 => ?_
  refine go_box rfl rfl rfl rfl rfl ?_
  intro B4
  refine hK5 _ _ ?_
  refine g_v (.free rfl) rfl rfl (qt_assign rfl rfl) ?_
  refine g_nil ?_
  refine gk_then (hK1 _ _ ?_)
  refine gc_seq fun K6 hK6 => ?_
  refine gc_region ?_
  refine g_v (.free rfl) rfl rfl (qt_assign rfl rfl) ?_
  refine g_nil ?_
  refine gk_then (hK6 _ _ ?_)
  refine gc_seq fun K7 hK7 => ?_
  refine gc_region ?_
  refine g_v (.free rfl) rfl rfl (qt_loadS (n := 0) rfl rfl Try.underlying27 rfl (by kernel_rfl) rfl) ?_
  refine g_v (.free rfl) rfl rfl (qt_move rfl rfl) ?_
  refine g_q (.free rfl) rfl rfl (qt_call rfl Try.func20 rfl (by decide) rfl (fun w M => szF_le w _ _ _ (inF_below M.1 I0) (by first | assumption | omega) (by first | assumption | omega) (by first | assumption | omega))) ?_
  refine g_v (.free rfl) rfl rfl (qt_assign rfl rfl) ?_
  refine g_nil ?_
  refine gk_then (hK7 _ _ ?_)
  refine gc_seq fun K8 hK8 => ?_
  refine gc_seq fun K9 hK9 => ?_
  refine gc_region ?_
  refine g_v (.free rfl) rfl rfl (qt_move rfl rfl) ?_
  refine g_v (.free rfl) rfl rfl (qt_lss rfl rfl rfl) ?_
  refine g_nil ?_
  refine gk_then (hK9 _ _ ?_)
  refine gc_cond rfl (fun hc0 => ?_) (fun hc0 => ?_)
  · try simp only [decide_eq_true_eq, decide_eq_false_iff_not, Bool.not_eq_true', Bool.not_eq_false', Bool.not_eq_eq_eq_not, Bool.not_true, Bool.not_false, ne_eq, Decidable.not_not, Classical.not_not] at hc0
    first | (exfalso; omega) | exact absurd rfl hc0 | (simp at hc0)
  · try simp only [decide_eq_true_eq, decide_eq_false_iff_not, Bool.not_eq_true', Bool.not_eq_false', Bool.not_eq_eq_eq_not, Bool.not_true, Bool.not_false, ne_eq, Decidable.not_not, Classical.not_not] at hc0
    refine gc_skip ?_
    refine gk_then (hK8 _ _ ?_)
    refine gc_seq fun K10 hK10 => ?_
    refine gc_region ?_
    refine g_v (.free rfl) rfl rfl (qt_loadS (n := 1) rfl rfl Try.underlying27 rfl (by kernel_rfl) rfl) ?_
    refine g_v (.free rfl) rfl rfl (qt_move rfl rfl) ?_
    refine g_q (.free rfl) rfl rfl (qt_call rfl Try.func20 rfl (by decide) rfl (fun w M => szF_le w _ _ _ (inF_below M.1 I1) (by first | assumption | omega) (by first | assumption | omega) (by first | assumption | omega))) ?_
    refine g_v (.free rfl) rfl rfl (qt_assign rfl rfl) ?_
    refine g_nil ?_
    refine gk_then (hK10 _ _ ?_)
    refine gc_seq fun K11 hK11 => ?_
    refine gc_seq fun K12 hK12 => ?_
    refine gc_region ?_
    refine g_v (.free rfl) rfl rfl (qt_move rfl rfl) ?_
    refine g_v (.free rfl) rfl rfl (qt_lss rfl rfl rfl) ?_
    refine g_nil ?_
    refine gk_then (hK12 _ _ ?_)
    refine gc_cond rfl (fun hc1 => ?_) (fun hc1 => ?_)
    · try simp only [decide_eq_true_eq, decide_eq_false_iff_not, Bool.not_eq_true', Bool.not_eq_false', Bool.not_eq_eq_eq_not, Bool.not_true, Bool.not_false, ne_eq, Decidable.not_not, Classical.not_not] at hc1
      first | (exfalso; omega) | exact absurd rfl hc1 | (simp at hc1)
    · try simp only [decide_eq_true_eq, decide_eq_false_iff_not, Bool.not_eq_true', Bool.not_eq_false', Bool.not_eq_eq_eq_not, Bool.not_true, Bool.not_false, ne_eq, Decidable.not_not, Classical.not_not] at hc1
      refine gc_skip ?_
      refine gk_then (hK11 _ _ ?_)
      refine gc_seq fun K13 hK13 => ?_
      try simp only [List.nil_append, List.cons_append, List.append_assoc, List.set_cons_succ, List.set_cons_zero]
      refine ga_start _ (fun w M => M) ?_
      refine ga_v 0 rfl (by kernel_rfl) (by kernel_rfl) (by kernel_rfl) (.free rfl) rfl rfl (qt_loadS (n := 0) rfl rfl Try.underlying27 rfl (by kernel_rfl) rfl) (fun _ _ _ h => h) ?_
      refine ga_v 2 rfl (by kernel_rfl) (by kernel_rfl) (by kernel_rfl) (.free rfl) rfl rfl (qt_loadS (n := 1) rfl rfl Try.underlying27 rfl (by kernel_rfl) rfl) (fun _ _ _ h => h) ?_
      refine ga_two 1 8 (by kernel_rfl) rfl rfl (.free rfl) (.free rfl) (fun K14 hK14 => ?_) (fun K14 hK14 => ?_)
      · refine go_callFn1 rfl rfl rfl Try.func22 rfl (by decide) rfl (fun w M => toF_any w _ _ (mem_rdF M R0)) ?_
        intro fx1_15 fk1_15 fx2_15 fk2_15 fx3_15 fk3_15 fx4_15 fk4_15 fx5_15 fk5_15 fx6_15 fk6_15 fx7_15 fk7_15 fx8_15 fk8_15 fx9_15 fk9_15 fx10_15 fk10_15
        refine hK14 _ _ (fun w M => (mem_take 2 M :)) ?_
        refine ga_two 3 8 (by kernel_rfl) rfl rfl (.free rfl) (.free rfl) (fun K17 hK17 => ?_) (fun K17 hK17 => ?_)
        · refine go_callFn1 rfl rfl rfl Try.func22 rfl (by decide) rfl (fun w M => toF_any w _ _ (mem_rdF M R1)) ?_
          intro fx1_18 fk1_18 fx2_18 fk2_18 fx3_18 fk3_18 fx4_18 fk4_18 fx5_18 fk5_18 fx6_18 fk6_18 fx7_18 fk7_18 fx8_18 fk8_18 fx9_18 fk9_18 fx10_18 fk10_18
          refine hK17 _ _ (fun w M => (mem_take 2 M :)) ?_
          refine ga_two 4 8 (by kernel_rfl) rfl rfl (.free rfl) (.free rfl) (fun K20 hK20 => ?_) (fun K20 hK20 => ?_)
          · refine go_callFI1 rfl rfl rfl Try.func40 rfl (by decide) rfl (fun w M => hspec w _ _ ((mem_ownF (n := 2) M rfl).rd) ((mem_ownF (n := 3) M rfl).rd)) ?_
            intro fx1_21 fk1_21 fx2_21 fk2_21 fx3_21 fk3_21 fx4_21 fk4_21 fx5_21 fk5_21 fx6_21 fk6_21 fx7_21 fk7_21 fx8_21 fk8_21 fx9_21 fk9_21 fx10_21 fk10_21
            refine hK20 _ _ (fun w M => (mem_take 2 M :)) ?_
            refine ga_v 5 rfl (by kernel_rfl) (by kernel_rfl) (by kernel_rfl) (.free rfl) rfl rfl (qt_move rfl rfl) (fun _ _ _ h => h) ?_
            refine ga_v 6 rfl (by kernel_rfl) (by kernel_rfl) (by kernel_rfl) (.free rfl) rfl rfl (qt_extract rfl rfl rfl) (fun _ _ _ h => h) ?_
            refine ga_v 7 rfl (by kernel_rfl) (by kernel_rfl) (by kernel_rfl) (.free rfl) rfl rfl (qt_extract rfl rfl rfl) (fun _ _ _ h => h) ?_
            refine ga_op 8 (by kernel_rfl) rfl (.free rfl) fun K24 hK24 => ?_
            refine go_alloc (z := (.agg #[.int .i64 0, .slice none 0 0, .slice none 0 0, .slice none 0 0, .slice none 0 0, .int .i64 0, .slice none 0 0, .slice none 0 0, .slice none 0 0, .slice none 0 0, .slice none 0 0, .slice none 0 0])) (cs := [.int .i64 0, .slice none 0 0, .slice none 0 0, .slice none 0 0, .slice none 0 0, .int .i64 0, .slice none 0 0, .slice none 0 0, .slice none 0 0, .slice none 0 0, .slice none 0 0, .slice none 0 0]) rfl rfl rfl (fun w => by kernel_rfl) rfl ?_
            intro B23
            refine hK24 _ _ (fun w M => (mem_take 2 M :)) ?_
            refine ga_op 9 (by kernel_rfl) rfl (.free rfl) fun K25 hK25 => ?_
            refine go_storeS (n := 5) rfl rfl rfl rfl (by kernel_rfl) rfl rfl rfl ?_
            refine hK25 _ _ (fun w M => (mem_take 2 M :)) ?_
            refine ga_v 10 rfl (by kernel_rfl) (by kernel_rfl) (by kernel_rfl) (.free rfl) rfl rfl (qt_assign rfl rfl) (fun _ _ _ h => h) ?_
            refine ga_done (by kernel_rfl) ?_
            refine gk_then (hK13 _ _ ?_)
            refine gc_seq fun K26 hK26 => ?_
            refine gc_region ?_
            refine g_v (.free rfl) rfl rfl (qt_loadS (n := 0) rfl rfl Try.underlying27 rfl (by kernel_rfl) rfl) ?_
            refine g_op (.free rfl) fun K28 hK28 => ?_
            refine go_callFn1 rfl rfl rfl Try.func22 rfl (by decide) rfl (fun w M => toF_any w _ _ (mem_rdF M R0)) ?_
            intro fx1_27 fk1_27 fx2_27 fk2_27 fx3_27 fk3_27 fx4_27 fk4_27 fx5_27 fk5_27 fx6_27 fk6_27 fx7_27 fk7_27 fx8_27 fk8_27 fx9_27 fk9_27 fx10_27 fk10_27
            refine hK28 _ _ ?_
            refine g_op (.free rfl) fun K30 hK30 => ?_
            refine go_alloc (z := (.agg #[.int .i64 0, .slice none 0 0, .slice none 0 0, .slice none 0 0, .slice none 0 0, .int .i64 0, .slice none 0 0, .slice none 0 0, .slice none 0 0, .slice none 0 0, .slice none 0 0, .slice none 0 0])) (cs := [.int .i64 0, .slice none 0 0, .slice none 0 0, .slice none 0 0, .slice none 0 0, .int .i64 0, .slice none 0 0, .slice none 0 0, .slice none 0 0, .slice none 0 0, .slice none 0 0, .slice none 0 0]) rfl rfl rfl (fun w => by kernel_rfl) rfl ?_
            intro B29
            refine hK30 _ _ ?_
            refine g_op (.free rfl) fun K31 hK31 => ?_
            refine go_storeS (n := 7) rfl rfl rfl rfl (by kernel_rfl) rfl rfl rfl ?_
            refine hK31 _ _ ?_
            refine g_nil ?_
            refine gk_then (hK26 _ _ ?_)
            refine gc_seq fun K32 hK32 => ?_
            refine gc_region ?_
            refine g_v (.free rfl) rfl rfl (qt_loadS (n := 1) rfl rfl Try.underlying27 rfl (by kernel_rfl) rfl) ?_
            refine g_op (.free rfl) fun K34 hK34 => ?_
            refine go_callFn1 rfl rfl rfl Try.func22 rfl (by decide) rfl (fun w M => toF_any w _ _ (mem_rdF M R1)) ?_
            intro fx1_33 fk1_33 fx2_33 fk2_33 fx3_33 fk3_33 fx4_33 fk4_33 fx5_33 fk5_33 fx6_33 fk6_33 fx7_33 fk7_33 fx8_33 fk8_33 fx9_33 fk9_33 fx10_33 fk10_33
            refine hK34 _ _ ?_
            refine g_op (.free rfl) fun K36 hK36 => ?_
            refine go_alloc (z := (.agg #[.int .i64 0, .slice none 0 0, .slice none 0 0, .slice none 0 0, .slice none 0 0, .int .i64 0, .slice none 0 0, .slice none 0 0, .slice none 0 0, .slice none 0 0, .slice none 0 0, .slice none 0 0])) (cs := [.int .i64 0, .slice none 0 0, .slice none 0 0, .slice none 0 0, .slice none 0 0, .int .i64 0, .slice none 0 0, .slice none 0 0, .slice none 0 0, .slice none 0 0, .slice none 0 0, .slice none 0 0]) rfl rfl rfl (fun w => by kernel_rfl) rfl ?_
            intro B35
            refine hK36 _ _ ?_
            refine g_op (.free rfl) fun K37 hK37 => ?_
            refine go_storeS (n := 9) rfl rfl rfl rfl (by kernel_rfl) rfl rfl rfl ?_
            refine hK37 _ _ ?_
            refine g_nil ?_
            refine gk_then (hK32 _ _ ?_)
            refine gc_seq fun K38 hK38 => ?_
            refine gc_region ?_
            refine g_v (.free rfl) rfl rfl (qt_loadS (n := 7) rfl rfl Try.underlying34 rfl (by kernel_rfl) rfl) ?_
            refine g_v (.free rfl) rfl rfl (qt_loadS (n := 9) rfl rfl Try.underlying34 rfl (by kernel_rfl) rfl) ?_
            refine g_op (.free rfl) fun K40 hK40 => ?_
            refine go_callFI1 rfl rfl rfl Try.func41 rfl (by decide) rfl (fun w M => himpl w _ _ ((mem_ownF (n := 6) M rfl).rd) ((mem_ownF (n := 8) M rfl).rd)) ?_
            intro fx1_39 fk1_39 fx2_39 fk2_39 fx3_39 fk3_39 fx4_39 fk4_39 fx5_39 fk5_39 fx6_39 fk6_39 fx7_39 fk7_39 fx8_39 fk8_39 fx9_39 fk9_39 fx10_39 fk10_39
            refine hK40 _ _ ?_
            refine g_v (.free rfl) rfl rfl (qt_move rfl rfl) ?_
            refine g_v (.free rfl) rfl rfl (qt_extract rfl rfl rfl) ?_
            refine g_v (.free rfl) rfl rfl (qt_extract rfl rfl rfl) ?_
            refine g_op (.free rfl) fun K42 hK42 => ?_
            refine go_alloc (z := (.agg #[.int .i64 0, .slice none 0 0, .slice none 0 0, .slice none 0 0, .slice none 0 0, .int .i64 0, .slice none 0 0, .slice none 0 0, .slice none 0 0, .slice none 0 0, .slice none 0 0, .slice none 0 0])) (cs := [.int .i64 0, .slice none 0 0, .slice none 0 0, .slice none 0 0, .slice none 0 0, .int .i64 0, .slice none 0 0, .slice none 0 0, .slice none 0 0, .slice none 0 0, .slice none 0 0, .slice none 0 0]) rfl rfl rfl (fun w => by kernel_rfl) rfl ?_
            intro B41
            refine hK42 _ _ ?_
            refine g_op (.free rfl) fun K43 hK43 => ?_
            refine go_storeS (n := 11) rfl rfl rfl rfl (by kernel_rfl) rfl rfl rfl ?_
            refine hK43 _ _ ?_
            refine g_v (.free rfl) rfl rfl (qt_assign rfl rfl) ?_
            refine g_nil ?_
            refine gk_then (hK38 _ _ ?_)
            refine gc_seq fun K44 hK44 => ?_
            refine gc_seq fun K45 hK45 => ?_
            refine gc_region ?_
            refine g_v (.free rfl) rfl rfl (qt_loadS (n := 11) rfl rfl Try.underlying34 rfl (by kernel_rfl) rfl) ?_
            refine g_v (.free rfl) rfl rfl (qt_loadS (n := 5) rfl rfl Try.underlying34 rfl (by kernel_rfl) rfl) ?_
            refine g_q (.free rfl) rfl rfl (qt_call rfl Try.func24 rfl (by decide) rfl (fun w M => eqF_refl_any w _ _ _ ((mem_ownF (n := 10) M rfl).rd) ((mem_ownF (n := 4) M rfl).rd))) ?_
            refine g_v (.free rfl) rfl rfl (qt_not rfl rfl) ?_
            refine g_v (.free rfl) rfl rfl (qt_move rfl rfl) ?_
            refine g_v (.held _ _ _ rfl rfl rfl) rfl rfl (qt_move rfl rfl) ?_
            refine g_v (.held _ _ _ rfl rfl rfl) rfl rfl (qt_move rfl rfl) ?_
            refine g_v (.held _ _ _ rfl rfl rfl) rfl rfl (qt_neq_f rfl rfl rfl (fun h => h rfl)) ?_
            refine g_v (.free rfl) rfl rfl (qt_pick_f rfl rfl rfl) ?_
            refine g_nil ?_
            refine gk_then (hK45 _ _ ?_)
            refine gc_cond_f rfl ?_
            refine gc_skip ?_
            refine gk_then (hK44 _ _ ?_)
            refine gc_seq fun K46 hK46 => ?_
            refine gc_seq fun K47 hK47 => ?_
            try simp only [List.nil_append, List.cons_append, List.append_assoc, List.set_cons_succ, List.set_cons_zero]
            refine ga_start _ (fun w M => M) ?_
            refine ga_v 0 rfl (by kernel_rfl) (by kernel_rfl) (by kernel_rfl) (.free rfl) rfl rfl (qt_loadS (n := 7) rfl rfl Try.underlying34 rfl (by kernel_rfl) rfl) (fun _ _ _ h => h) ?_
            refine ga_v 1 rfl (by kernel_rfl) (by kernel_rfl) (by kernel_rfl) (.free rfl) rfl rfl (qt_loadS (n := 0) rfl rfl Try.underlying27 rfl (by kernel_rfl) rfl) (fun _ _ _ h => h) ?_
            refine ga_op 2 (by kernel_rfl) rfl (.free rfl) fun K49 hK49 => ?_
            refine go_callFn1 rfl rfl rfl Try.func22 rfl (by decide) rfl (fun w M => toF_any w _ _ (mem_rdF M R0)) ?_
            intro fx1_48 fk1_48 fx2_48 fk2_48 fx3_48 fk3_48 fx4_48 fk4_48 fx5_48 fk5_48 fx6_48 fk6_48 fx7_48 fk7_48 fx8_48 fk8_48 fx9_48 fk9_48 fx10_48 fk10_48
            refine hK49 _ _ (fun w M => (mem_take 12 M :)) ?_
            refine ga_op 3 (by kernel_rfl) rfl (.free rfl) fun K50 hK50 => ?_
            refine go_q rfl rfl (qt_call rfl Try.func24 rfl (by decide) rfl (fun w M => eqF_refl_any w _ _ _ ((mem_ownF (n := 6) M rfl).rd) ((mem_ownF (n := 12) M rfl).rd))) ?_
            refine hK50 _ _ (fun w M => (mem_take 12 M :)) ?_
            refine ga_v 4 rfl (by kernel_rfl) (by kernel_rfl) (by kernel_rfl) (.free rfl) rfl rfl (qt_not rfl rfl) (fun _ _ _ h => h) ?_
            refine ga_done (by kernel_rfl) ?_
            refine gk_then (hK47 _ _ ?_)
            refine gc_cond_f rfl ?_
            refine gc_skip ?_
            refine gk_then (hK46 _ _ ?_)
            refine gc_seq fun K51 hK51 => ?_
            refine gc_seq fun K52 hK52 => ?_
            try simp only [List.nil_append, List.cons_append, List.append_assoc, List.set_cons_succ, List.set_cons_zero]
            refine ga_start _ (fun w M => M) ?_
            refine ga_v 0 rfl (by kernel_rfl) (by kernel_rfl) (by kernel_rfl) (.free rfl) rfl rfl (qt_loadS (n := 9) rfl rfl Try.underlying34 rfl (by kernel_rfl) rfl) (fun _ _ _ h => h) ?_
            refine ga_v 1 rfl (by kernel_rfl) (by kernel_rfl) (by kernel_rfl) (.free rfl) rfl rfl (qt_loadS (n := 1) rfl rfl Try.underlying27 rfl (by kernel_rfl) rfl) (fun _ _ _ h => h) ?_
            refine ga_op 2 (by kernel_rfl) rfl (.free rfl) fun K54 hK54 => ?_
            refine go_callFn1 rfl rfl rfl Try.func22 rfl (by decide) rfl (fun w M => toF_any w _ _ (mem_rdF M R1)) ?_
            intro fx1_53 fk1_53 fx2_53 fk2_53 fx3_53 fk3_53 fx4_53 fk4_53 fx5_53 fk5_53 fx6_53 fk6_53 fx7_53 fk7_53 fx8_53 fk8_53 fx9_53 fk9_53 fx10_53 fk10_53
            refine hK54 _ _ (fun w M => (mem_take 13 M :)) ?_
            refine ga_op 3 (by kernel_rfl) rfl (.free rfl) fun K55 hK55 => ?_
            refine go_q rfl rfl (qt_call rfl Try.func24 rfl (by decide) rfl (fun w M => eqF_refl_any w _ _ _ ((mem_ownF (n := 8) M rfl).rd) ((mem_ownF (n := 13) M rfl).rd))) ?_
            refine hK55 _ _ (fun w M => (mem_take 13 M :)) ?_
            refine ga_v 4 rfl (by kernel_rfl) (by kernel_rfl) (by kernel_rfl) (.free rfl) rfl rfl (qt_not rfl rfl) (fun _ _ _ h => h) ?_
            refine ga_done (by kernel_rfl) ?_
            refine gk_then (hK52 _ _ ?_)
            refine gc_cond_f rfl ?_
            refine gc_skip ?_
            refine gk_then (hK51 _ _ ?_)
            refine gc_seq fun K56 hK56 => ?_
            refine gc_region ?_
            refine g_v (.free rfl) rfl rfl (qt_assign rfl rfl) ?_
            refine g_nil ?_
            refine gk_then (hK56 _ _ ?_)
            refine gc_seq fun K57 hK57 => ?_
            refine gc_region ?_
            refine g_v (.free rfl) rfl rfl (qt_loadS (n := 7) rfl rfl Try.underlying34 rfl (by kernel_rfl) rfl) ?_
            refine g_v (.free rfl) rfl rfl (qt_move rfl rfl) ?_
            refine g_op (.free rfl) fun K58 hK58 => ?_
            refine go_one (n := 6) rfl rfl rfl Try.func25 rfl (by decide) rfl rfl (fun R w M => markF1_any _ w R _ _ _ _ _ _ _ _ _ _ _ _ (by omega) (by omega) M) ?_
            refine hK58 _ _ ?_
            refine g_v (.free rfl) rfl rfl (qt_assign rfl rfl) ?_
            refine g_nil ?_
            refine gk_then (hK57 _ _ ?_)
            refine gc_seq fun K59 hK59 => ?_
            refine gc_region ?_
            refine g_v (.free rfl) rfl rfl (qt_loadS (n := 9) rfl rfl Try.underlying34 rfl (by kernel_rfl) rfl) ?_
            refine g_v (.free rfl) rfl rfl (qt_move rfl rfl) ?_
            refine g_op (.free rfl) fun K60 hK60 => ?_
            refine go_one (n := 8) rfl rfl rfl Try.func25 rfl (by decide) rfl rfl (fun R w M => markF1_any _ w R _ _ _ _ _ _ _ _ _ _ _ _ (by omega) (by omega) M) ?_
            refine hK60 _ _ ?_
            refine g_v (.free rfl) rfl rfl (qt_assign rfl rfl) ?_
            refine g_nil ?_
            refine gk_then (hK59 _ _ ?_)
            refine gc_seq fun K61 hK61 => ?_
            refine gc_seq fun K62 hK62 => ?_
            refine gc_region ?_
            refine g_v (.free rfl) rfl rfl (qt_move rfl rfl) ?_
            refine g_v (.free rfl) rfl rfl (qt_lss rfl rfl rfl) ?_
            refine g_splitv (.free rfl) rfl rfl (qt_move rfl rfl) (fun hs21_2 => ?_) (fun hs21_2 => ?_)
            · try simp only [decide_eq_true_eq, decide_eq_false_iff_not, Bool.not_eq_true', Bool.not_eq_false', Bool.not_eq_eq_eq_not, Bool.not_true, Bool.not_false, ne_eq, Decidable.not_not, Classical.not_not] at hs21_2
              first | (exfalso; omega) | exact absurd rfl hs21_2 | (simp at hs21_2)
            · try simp only [decide_eq_true_eq, decide_eq_false_iff_not, Bool.not_eq_true', Bool.not_eq_false', Bool.not_eq_eq_eq_not, Bool.not_true, Bool.not_false, ne_eq, Decidable.not_not, Classical.not_not] at hs21_2
              refine g_v (.held _ _ _ rfl rfl rfl) rfl rfl (qt_loadS (n := 11) rfl rfl Try.underlying34 rfl (by kernel_rfl) rfl) ?_
              refine g_v (.held _ _ _ rfl rfl rfl) rfl rfl (qt_loadS (n := 5) rfl rfl Try.underlying34 rfl (by kernel_rfl) rfl) ?_
              refine g_q (.held _ _ _ rfl rfl rfl) rfl rfl (qt_call rfl Try.func24 rfl (by decide) rfl (fun w M => eqF_refl_any w _ _ _ ((mem_ownF (n := 10) M rfl).rd) ((mem_ownF (n := 4) M rfl).rd))) ?_
              refine g_v (.held _ _ _ rfl rfl rfl) rfl rfl (qt_not rfl rfl) ?_
              refine g_v (.free rfl) rfl rfl (qt_pick_f rfl rfl rfl) ?_
              refine g_v (.free rfl) rfl rfl (qt_move rfl rfl) ?_
              refine g_v (.held _ _ _ rfl rfl rfl) rfl rfl (qt_move rfl rfl) ?_
              refine g_v (.held _ _ _ rfl rfl rfl) rfl rfl (qt_move rfl rfl) ?_
              refine g_v (.held _ _ _ rfl rfl rfl) rfl rfl (qt_neq_f rfl rfl rfl (fun h => h rfl)) ?_
              refine g_v (.free rfl) rfl rfl (qt_pick_f rfl rfl rfl) ?_
              refine g_nil ?_
              refine gk_then (hK62 _ _ ?_)
              refine gc_cond_f rfl ?_
              refine gc_skip ?_
              refine gk_then (hK61 _ _ ?_)
              refine gc_seq fun K63 hK63 => ?_
              refine gc_region ?_
              refine g_v (.free rfl) rfl rfl (qt_assign rfl rfl) ?_
              refine g_nil ?_
              refine gk_then (hK63 _ _ ?_)
              refine gc_seq fun K64 hK64 => ?_
              refine gc_region ?_
              refine g_v (.free rfl) rfl rfl (qt_loadS (n := 11) rfl rfl Try.underlying34 rfl (by kernel_rfl) rfl) ?_
              refine g_v (.free rfl) rfl rfl (qt_move rfl rfl) ?_
              refine g_op (.free rfl) fun K65 hK65 => ?_
              refine go_one (n := 10) rfl rfl rfl Try.func25 rfl (by decide) rfl rfl (fun R w M => markF1_any _ w R _ _ _ _ _ _ _ _ _ _ _ _ (by omega) (by omega) M) ?_
              refine hK65 _ _ ?_
              refine g_v (.free rfl) rfl rfl (qt_assign rfl rfl) ?_
              refine g_nil ?_
              refine gk_then (hK64 _ _ ?_)
              refine gc_seq fun K66 hK66 => ?_
              refine gc_region ?_
              refine g_v (.free rfl) rfl rfl (qt_assign rfl rfl) ?_
              refine g_nil ?_
              refine gk_then (hK66 _ _ ?_)
              refine gc_seq fun K67 hK67 => ?_
              refine gc_region ?_
              refine g_v (.free rfl) rfl rfl (qt_loadS (n := 11) rfl rfl Try.underlying34 rfl (by kernel_rfl) rfl) ?_
              refine g_v (.free rfl) rfl rfl (qt_move rfl rfl) ?_
              refine g_q (.free rfl) rfl rfl (qt_call rfl Try.func42 rfl (by decide) rfl (fun w M => heldF_any w _ _ _ ((mem_ownF (n := 10) M rfl).rd) (by first | assumption | omega) (by first | assumption | omega))) ?_
              refine g_v (.free rfl) rfl rfl (qt_assign rfl rfl) ?_
              refine g_nil ?_
              refine gk_then (hK67 _ _ ?_)
              refine gc_seq fun K68 hK68 => ?_
              refine gc_seq fun K69 hK69 => ?_
              refine gc_region ?_
              refine g_v (.free rfl) rfl rfl (qt_move rfl rfl) ?_
              refine g_v (.free rfl) rfl rfl (qt_lss rfl rfl rfl) ?_
              refine g_nil ?_
              refine gk_then (hK69 _ _ ?_)
              refine gc_cond rfl (fun hc2 => ?_) (fun hc2 => ?_)
              · try simp only [decide_eq_true_eq, decide_eq_false_iff_not, Bool.not_eq_true', Bool.not_eq_false', Bool.not_eq_eq_eq_not, Bool.not_true, Bool.not_false, ne_eq, Decidable.not_not, Classical.not_not] at hc2
                first | (exfalso; omega) | exact absurd rfl hc2 | (simp at hc2)
              · try simp only [decide_eq_true_eq, decide_eq_false_iff_not, Bool.not_eq_true', Bool.not_eq_false', Bool.not_eq_eq_eq_not, Bool.not_true, Bool.not_false, ne_eq, Decidable.not_not, Classical.not_not] at hc2
                refine gc_skip ?_
                refine gk_then (hK68 _ _ ?_)
                refine gc_seq fun K70 hK70 => ?_
                refine gc_seq fun K71 hK71 => ?_
                refine gc_region ?_
                refine g_v (.free rfl) rfl rfl (qt_move rfl rfl) ?_
                refine g_v (.free rfl) rfl rfl (qt_move rfl rfl) ?_
                refine g_v (.free rfl) rfl rfl (qt_neq rfl rfl rfl) ?_
                refine g_nil ?_
                refine gk_then (hK71 _ _ ?_)
                refine gc_cond rfl (fun hc3 => ?_) (fun hc3 => ?_)
                · try simp only [decide_eq_true_eq, decide_eq_false_iff_not, Bool.not_eq_true', Bool.not_eq_false', Bool.not_eq_eq_eq_not, Bool.not_true, Bool.not_false, ne_eq, Decidable.not_not, Classical.not_not] at hc3
                  first | (exfalso; omega) | exact absurd rfl hc3 | (simp at hc3)
                · try simp only [decide_eq_true_eq, decide_eq_false_iff_not, Bool.not_eq_true', Bool.not_eq_false', Bool.not_eq_eq_eq_not, Bool.not_true, Bool.not_false, ne_eq, Decidable.not_not, Classical.not_not] at hc3
                  refine gc_skip ?_
                  refine gk_then (hK70 _ _ ?_)
                  refine gc_seq fun K72 hK72 => ?_
                  try simp only [List.nil_append, List.cons_append, List.append_assoc, List.set_cons_succ, List.set_cons_zero]
                  refine ga_start _ (fun w M => M) ?_
                  refine ga_v 0 rfl (by kernel_rfl) (by kernel_rfl) (by kernel_rfl) (.free rfl) rfl rfl (qt_loadS (n := 0) rfl rfl Try.underlying27 rfl (by kernel_rfl) rfl) (fun _ _ _ h => h) ?_
                  refine ga_v 2 rfl (by kernel_rfl) (by kernel_rfl) (by kernel_rfl) (.free rfl) rfl rfl (qt_loadS (n := 1) rfl rfl Try.underlying27 rfl (by kernel_rfl) rfl) (fun _ _ _ h => h) ?_
                  refine ga_two 1 8 (by kernel_rfl) rfl rfl (.free rfl) (.free rfl) (fun K73 hK73 => ?_) (fun K73 hK73 => ?_)
                  · refine go_callFn1 rfl rfl rfl Try.func22 rfl (by decide) rfl (fun w M => toF_any w _ _ (mem_rdF M R0)) ?_
                    intro fx1_74 fk1_74 fx2_74 fk2_74 fx3_74 fk3_74 fx4_74 fk4_74 fx5_74 fk5_74 fx6_74 fk6_74 fx7_74 fk7_74 fx8_74 fk8_74 fx9_74 fk9_74 fx10_74 fk10_74
                    refine hK73 _ _ (fun w M => (mem_take 14 M :)) ?_
                    refine ga_two 3 8 (by kernel_rfl) rfl rfl (.free rfl) (.free rfl) (fun K76 hK76 => ?_) (fun K76 hK76 => ?_)
                    · refine go_callFn1 rfl rfl rfl Try.func22 rfl (by decide) rfl (fun w M => toF_any w _ _ (mem_rdF M R1)) ?_
                      intro fx1_77 fk1_77 fx2_77 fk2_77 fx3_77 fk3_77 fx4_77 fk4_77 fx5_77 fk5_77 fx6_77 fk6_77 fx7_77 fk7_77 fx8_77 fk8_77 fx9_77 fk9_77 fx10_77 fk10_77
                      refine hK76 _ _ (fun w M => (mem_take 14 M :)) ?_
                      refine ga_two 4 8 (by kernel_rfl) rfl rfl (.free rfl) (.free rfl) (fun K79 hK79 => ?_) (fun K79 hK79 => ?_)
                      · refine go_callFI1 rfl rfl rfl Try.func41 rfl (by decide) rfl (fun w M => himpl w _ _ ((mem_ownF (n := 14) M rfl).rd) ((mem_ownF (n := 15) M rfl).rd)) ?_
                        intro fx1_80 fk1_80 fx2_80 fk2_80 fx3_80 fk3_80 fx4_80 fk4_80 fx5_80 fk5_80 fx6_80 fk6_80 fx7_80 fk7_80 fx8_80 fk8_80 fx9_80 fk9_80 fx10_80 fk10_80
                        refine hK79 _ _ (fun w M => (mem_take 14 M :)) ?_
                        refine ga_v 5 rfl (by kernel_rfl) (by kernel_rfl) (by kernel_rfl) (.free rfl) rfl rfl (qt_move rfl rfl) (fun _ _ _ h => h) ?_
                        refine ga_v 6 rfl (by kernel_rfl) (by kernel_rfl) (by kernel_rfl) (.free rfl) rfl rfl (qt_extract rfl rfl rfl) (fun _ _ _ h => h) ?_
                        refine ga_v 7 rfl (by kernel_rfl) (by kernel_rfl) (by kernel_rfl) (.free rfl) rfl rfl (qt_extract rfl rfl rfl) (fun _ _ _ h => h) ?_
                        refine ga_op 8 (by kernel_rfl) rfl (.free rfl) fun K83 hK83 => ?_
                        refine go_alloc (z := (.agg #[.int .i64 0, .slice none 0 0, .slice none 0 0, .slice none 0 0, .slice none 0 0, .int .i64 0, .slice none 0 0, .slice none 0 0, .slice none 0 0, .slice none 0 0, .slice none 0 0, .slice none 0 0])) (cs := [.int .i64 0, .slice none 0 0, .slice none 0 0, .slice none 0 0, .slice none 0 0, .int .i64 0, .slice none 0 0, .slice none 0 0, .slice none 0 0, .slice none 0 0, .slice none 0 0, .slice none 0 0]) rfl rfl rfl (fun w => by kernel_rfl) rfl ?_
                        intro B82
                        refine hK83 _ _ (fun w M => (mem_take 14 M :)) ?_
                        refine ga_op 9 (by kernel_rfl) rfl (.free rfl) fun K84 hK84 => ?_
                        refine go_storeS (n := 17) rfl rfl rfl rfl (by kernel_rfl) rfl rfl rfl ?_
                        refine hK84 _ _ (fun w M => (mem_take 14 M :)) ?_
                        refine ga_v 10 rfl (by kernel_rfl) (by kernel_rfl) (by kernel_rfl) (.free rfl) rfl rfl (qt_assign rfl rfl) (fun _ _ _ h => h) ?_
                        refine ga_done (by kernel_rfl) ?_
                        refine gk_then (hK72 _ _ ?_)
                        refine gc_seq fun K85 hK85 => ?_
                        refine gc_seq fun K86 hK86 => ?_
                        refine gc_region ?_
                        refine g_v (.free rfl) rfl rfl (qt_loadS (n := 17) rfl rfl Try.underlying34 rfl (by kernel_rfl) rfl) ?_
                        refine g_v (.free rfl) rfl rfl (qt_loadS (n := 5) rfl rfl Try.underlying34 rfl (by kernel_rfl) rfl) ?_
                        refine g_q (.free rfl) rfl rfl (qt_call rfl Try.func24 rfl (by decide) rfl (fun w M => eqF_refl_any w _ _ _ ((mem_ownF (n := 16) M rfl).rd) ((mem_ownF (n := 4) M rfl).rd))) ?_
                        refine g_v (.free rfl) rfl rfl (qt_not rfl rfl) ?_
                        refine g_v (.free rfl) rfl rfl (qt_move rfl rfl) ?_
                        refine g_v (.held _ _ _ rfl rfl rfl) rfl rfl (qt_move rfl rfl) ?_
                        refine g_v (.held _ _ _ rfl rfl rfl) rfl rfl (qt_move rfl rfl) ?_
                        refine g_v (.held _ _ _ rfl rfl rfl) rfl rfl (qt_neq_f rfl rfl rfl (fun h => h rfl)) ?_
                        refine g_v (.free rfl) rfl rfl (qt_pick_f rfl rfl rfl) ?_
                        refine g_nil ?_
                        refine gk_then (hK86 _ _ ?_)
                        refine gc_cond_f rfl ?_
                        refine gc_skip ?_
                        refine gk_then (hK85 _ _ ?_)
                        refine gc_seq fun K87 hK87 => ?_
                        refine gc_region ?_
                        refine g_v (.free rfl) rfl rfl (qt_assign rfl rfl) ?_
                        refine g_nil ?_
                        refine gk_then (hK87 _ _ ?_)
                        refine gc_seq fun K88 hK88 => ?_
                        refine gc_region ?_
                        refine g_v (.free rfl) rfl rfl (qt_loadS (n := 11) rfl rfl Try.underlying34 rfl (by kernel_rfl) rfl) ?_
                        refine g_v (.free rfl) rfl rfl (qt_move rfl rfl) ?_
                        refine g_q (.free rfl) rfl rfl (qt_call rfl Try.func42 rfl (by decide) rfl (fun w M => heldF_any w _ _ _ ((mem_ownF (n := 10) M rfl).rd) (by first | assumption | omega) (by first | assumption | omega))) ?_
                        refine g_v (.free rfl) rfl rfl (qt_assign rfl rfl) ?_
                        refine g_nil ?_
                        refine gk_then (hK88 _ _ ?_)
                        refine gc_seq fun K89 hK89 => ?_
                        refine gc_seq fun K90 hK90 => ?_
                        refine gc_region ?_
                        refine g_v (.free rfl) rfl rfl (qt_move rfl rfl) ?_
                        refine g_v (.free rfl) rfl rfl (qt_lss rfl rfl rfl) ?_
                        refine g_nil ?_
                        refine gk_then (hK90 _ _ ?_)
                        refine gc_cond rfl (fun hc4 => ?_) (fun hc4 => ?_)
                        · try simp only [decide_eq_true_eq, decide_eq_false_iff_not, Bool.not_eq_true', Bool.not_eq_false', Bool.not_eq_eq_eq_not, Bool.not_true, Bool.not_false, ne_eq, Decidable.not_not, Classical.not_not] at hc4
                          first | (exfalso; omega) | exact absurd rfl hc4 | (simp at hc4)
                        · try simp only [decide_eq_true_eq, decide_eq_false_iff_not, Bool.not_eq_true', Bool.not_eq_false', Bool.not_eq_eq_eq_not, Bool.not_true, Bool.not_false, ne_eq, Decidable.not_not, Classical.not_not] at hc4
                          refine gc_skip ?_
                          refine gk_then (hK89 _ _ ?_)
                          refine gc_seq fun K91 hK91 => ?_
                          refine gc_seq fun K92 hK92 => ?_
                          refine gc_region ?_
                          refine g_v (.free rfl) rfl rfl (qt_move rfl rfl) ?_
                          refine g_v (.free rfl) rfl rfl (qt_move rfl rfl) ?_
                          refine g_v (.free rfl) rfl rfl (qt_neq rfl rfl rfl) ?_
                          refine g_nil ?_
                          refine gk_then (hK92 _ _ ?_)
                          refine gc_cond rfl (fun hc5 => ?_) (fun hc5 => ?_)
                          · try simp only [decide_eq_true_eq, decide_eq_false_iff_not, Bool.not_eq_true', Bool.not_eq_false', Bool.not_eq_eq_eq_not, Bool.not_true, Bool.not_false, ne_eq, Decidable.not_not, Classical.not_not] at hc5
                            first | (exfalso; omega) | exact absurd rfl hc5 | (simp at hc5)
                          · try simp only [decide_eq_true_eq, decide_eq_false_iff_not, Bool.not_eq_true', Bool.not_eq_false', Bool.not_eq_eq_eq_not, Bool.not_true, Bool.not_false, ne_eq, Decidable.not_not, Classical.not_not] at hc5
                            refine gc_skip ?_
                            refine gk_then (hK91 _ _ ?_)
                            refine gc_seq fun K93 hK93 => ?_
                            refine gc_region ?_
                            refine g_v (.free rfl) rfl rfl (qt_assign rfl rfl) ?_
                            refine g_nil ?_
                            refine gk_then (hK93 _ _ ?_)
                            refine gc_ret ?_
                            refine ret_1 rfl rfl  (fun w M => ?_)
                            exact ⟨rfl, M.1⟩
                      · refine go_alloc (z := (.agg #[.int .i64 0, .slice none 0 0, .slice none 0 0, .slice none 0 0, .slice none 0 0, .int .i64 0, .slice none 0 0, .slice none 0 0, .slice none 0 0, .slice none 0 0, .slice none 0 0, .slice none 0 0])) (cs := [.int .i64 0, .slice none 0 0, .slice none 0 0, .slice none 0 0, .slice none 0 0, .int .i64 0, .slice none 0 0, .slice none 0 0, .slice none 0 0, .slice none 0 0, .slice none 0 0, .slice none 0 0]) rfl rfl rfl (fun w => by kernel_rfl) rfl ?_
                        intro B94
                        refine hK79 _ _ (fun w M => (mem_take 14 M :)) ?_
                        refine ga_op 4 (by kernel_rfl) rfl (.free rfl) fun K97 hK97 => ?_
                        refine go_callFI1 rfl rfl rfl Try.func41 rfl (by decide) rfl (fun w M => himpl w _ _ ((mem_ownF (n := 14) M rfl).rd) ((mem_ownF (n := 15) M rfl).rd)) ?_
                        intro fx1_96 fk1_96 fx2_96 fk2_96 fx3_96 fk3_96 fx4_96 fk4_96 fx5_96 fk5_96 fx6_96 fk6_96 fx7_96 fk7_96 fx8_96 fk8_96 fx9_96 fk9_96 fx10_96 fk10_96
                        refine hK97 _ _ (fun w M => (mem_take 14 M :)) ?_
                        refine ga_v 5 rfl (by kernel_rfl) (by kernel_rfl) (by kernel_rfl) (.free rfl) rfl rfl (qt_move rfl rfl) (fun _ _ _ h => h) ?_
                        refine ga_v 6 rfl (by kernel_rfl) (by kernel_rfl) (by kernel_rfl) (.free rfl) rfl rfl (qt_extract rfl rfl rfl) (fun _ _ _ h => h) ?_
                        refine ga_v 7 rfl (by kernel_rfl) (by kernel_rfl) (by kernel_rfl) (.free rfl) rfl rfl (qt_extract rfl rfl rfl) (fun _ _ _ h => h) ?_
                        refine ga_op 9 (by kernel_rfl) rfl (.free rfl) fun K98 hK98 => ?_
                        refine go_storeS (n := 16) rfl rfl rfl rfl (by kernel_rfl) rfl rfl rfl ?_
                        refine hK98 _ _ (fun w M => (mem_take 14 M :)) ?_
                        refine ga_v 10 rfl (by kernel_rfl) (by kernel_rfl) (by kernel_rfl) (.free rfl) rfl rfl (qt_assign rfl rfl) (fun _ _ _ h => h) ?_
                        refine ga_done (by kernel_rfl) ?_
                        refine gk_then (hK72 _ _ ?_)
                        refine gc_seq fun K99 hK99 => ?_
                        refine gc_seq fun K100 hK100 => ?_
                        refine gc_region ?_
                        refine g_v (.free rfl) rfl rfl (qt_loadS (n := 16) rfl rfl Try.underlying34 rfl (by kernel_rfl) rfl) ?_
                        refine g_v (.free rfl) rfl rfl (qt_loadS (n := 5) rfl rfl Try.underlying34 rfl (by kernel_rfl) rfl) ?_
                        refine g_q (.free rfl) rfl rfl (qt_call rfl Try.func24 rfl (by decide) rfl (fun w M => eqF_refl_any w _ _ _ ((mem_ownF (n := 17) M rfl).rd) ((mem_ownF (n := 4) M rfl).rd))) ?_
                        refine g_v (.free rfl) rfl rfl (qt_not rfl rfl) ?_
                        refine g_v (.free rfl) rfl rfl (qt_move rfl rfl) ?_
                        refine g_v (.held _ _ _ rfl rfl rfl) rfl rfl (qt_move rfl rfl) ?_
                        refine g_v (.held _ _ _ rfl rfl rfl) rfl rfl (qt_move rfl rfl) ?_
                        refine g_v (.held _ _ _ rfl rfl rfl) rfl rfl (qt_neq_f rfl rfl rfl (fun h => h rfl)) ?_
                        refine g_v (.free rfl) rfl rfl (qt_pick_f rfl rfl rfl) ?_
                        refine g_nil ?_
                        refine gk_then (hK100 _ _ ?_)
                        refine gc_cond_f rfl ?_
                        refine gc_skip ?_
                        refine gk_then (hK99 _ _ ?_)
                        refine gc_seq fun K101 hK101 => ?_
                        refine gc_region ?_
                        refine g_v (.free rfl) rfl rfl (qt_assign rfl rfl) ?_
                        refine g_nil ?_
                        refine gk_then (hK101 _ _ ?_)
                        refine gc_seq fun K102 hK102 => ?_
                        refine gc_region ?_
                        refine g_v (.free rfl) rfl rfl (qt_loadS (n := 11) rfl rfl Try.underlying34 rfl (by kernel_rfl) rfl) ?_
                        refine g_v (.free rfl) rfl rfl (qt_move rfl rfl) ?_
                        refine g_q (.free rfl) rfl rfl (qt_call rfl Try.func42 rfl (by decide) rfl (fun w M => heldF_any w _ _ _ ((mem_ownF (n := 10) M rfl).rd) (by first | assumption | omega) (by first | assumption | omega))) ?_
                        refine g_v (.free rfl) rfl rfl (qt_assign rfl rfl) ?_
                        refine g_nil ?_
                        refine gk_then (hK102 _ _ ?_)
                        refine gc_seq fun K103 hK103 => ?_
                        refine gc_seq fun K104 hK104 => ?_
                        refine gc_region ?_
                        refine g_v (.free rfl) rfl rfl (qt_move rfl rfl) ?_
                        refine g_v (.free rfl) rfl rfl (qt_lss rfl rfl rfl) ?_
                        refine g_nil ?_
                        refine gk_then (hK104 _ _ ?_)
                        refine gc_cond rfl (fun hc6 => ?_) (fun hc6 => ?_)
                        · try simp only [decide_eq_true_eq, decide_eq_false_iff_not, Bool.not_eq_true', Bool.not_eq_false', Bool.not_eq_eq_eq_not, Bool.not_true, Bool.not_false, ne_eq, Decidable.not_not, Classical.not_not] at hc6
                          first | (exfalso; omega) | exact absurd rfl hc6 | (simp at hc6)
                        · try simp only [decide_eq_true_eq, decide_eq_false_iff_not, Bool.not_eq_true', Bool.not_eq_false', Bool.not_eq_eq_eq_not, Bool.not_true, Bool.not_false, ne_eq, Decidable.not_not, Classical.not_not] at hc6
                          refine gc_skip ?_
                          refine gk_then (hK103 _ _ ?_)
                          refine gc_seq fun K105 hK105 => ?_
                          refine gc_seq fun K106 hK106 => ?_
                          refine gc_region ?_
                          refine g_v (.free rfl) rfl rfl (qt_move rfl rfl) ?_
                          refine g_v (.free rfl) rfl rfl (qt_move rfl rfl) ?_
                          refine g_v (.free rfl) rfl rfl (qt_neq rfl rfl rfl) ?_
                          refine g_nil ?_
                          refine gk_then (hK106 _ _ ?_)
                          refine gc_cond rfl (fun hc7 => ?_) (fun hc7 => ?_)
                          · try simp only [decide_eq_true_eq, decide_eq_false_iff_not, Bool.not_eq_true', Bool.not_eq_false', Bool.not_eq_eq_eq_not, Bool.not_true, Bool.not_false, ne_eq, Decidable.not_not, Classical.not_not] at hc7
                            first | (exfalso; omega) | exact absurd rfl hc7 | (simp at hc7)
                          · try simp only [decide_eq_true_eq, decide_eq_false_iff_not, Bool.not_eq_true', Bool.not_eq_false', Bool.not_eq_eq_eq_not, Bool.not_true, Bool.not_false, ne_eq, Decidable.not_not, Classical.not_not] at hc7
                            refine gc_skip ?_
                            refine gk_then (hK105 _ _ ?_)
                            refine gc_seq fun K107 hK107 => ?_
                            refine gc_region ?_
                            refine g_v (.free rfl) rfl rfl (qt_assign rfl rfl) ?_
                            refine g_nil ?_
                            refine gk_then (hK107 _ _ ?_)
                            refine gc_ret ?_
                            refine ret_1 rfl rfl  (fun w M => ?_)
                            exact ⟨rfl, M.1⟩
                    · refine go_alloc (z := (.agg #[.int .i64 0, .slice none 0 0, .slice none 0 0, .slice none 0 0, .slice none 0 0, .int .i64 0, .slice none 0 0, .slice none 0 0, .slice none 0 0, .slice none 0 0, .slice none 0 0, .slice none 0 0])) (cs := [.int .i64 0, .slice none 0 0, .slice none 0 0, .slice none 0 0, .slice none 0 0, .int .i64 0, .slice none 0 0, .slice none 0 0, .slice none 0 0, .slice none 0 0, .slice none 0 0, .slice none 0 0]) rfl rfl rfl (fun w => by kernel_rfl) rfl ?_
                      intro B108
                      refine hK76 _ _ (fun w M => (mem_take 14 M :)) ?_
                      refine ga_op 3 (by kernel_rfl) rfl (.free rfl) fun K111 hK111 => ?_
                      refine go_callFn1 rfl rfl rfl Try.func22 rfl (by decide) rfl (fun w M => toF_any w _ _ (mem_rdF M R1)) ?_
                      intro fx1_110 fk1_110 fx2_110 fk2_110 fx3_110 fk3_110 fx4_110 fk4_110 fx5_110 fk5_110 fx6_110 fk6_110 fx7_110 fk7_110 fx8_110 fk8_110 fx9_110 fk9_110 fx10_110 fk10_110
                      refine hK111 _ _ (fun w M => (mem_take 14 M :)) ?_
                      refine ga_op 4 (by kernel_rfl) rfl (.free rfl) fun K113 hK113 => ?_
                      refine go_callFI1 rfl rfl rfl Try.func41 rfl (by decide) rfl (fun w M => himpl w _ _ ((mem_ownF (n := 14) M rfl).rd) ((mem_ownF (n := 16) M rfl).rd)) ?_
                      intro fx1_112 fk1_112 fx2_112 fk2_112 fx3_112 fk3_112 fx4_112 fk4_112 fx5_112 fk5_112 fx6_112 fk6_112 fx7_112 fk7_112 fx8_112 fk8_112 fx9_112 fk9_112 fx10_112 fk10_112
                      refine hK113 _ _ (fun w M => (mem_take 14 M :)) ?_
                      refine ga_v 5 rfl (by kernel_rfl) (by kernel_rfl) (by kernel_rfl) (.free rfl) rfl rfl (qt_move rfl rfl) (fun _ _ _ h => h) ?_
                      refine ga_v 6 rfl (by kernel_rfl) (by kernel_rfl) (by kernel_rfl) (.free rfl) rfl rfl (qt_extract rfl rfl rfl) (fun _ _ _ h => h) ?_
                      refine ga_v 7 rfl (by kernel_rfl) (by kernel_rfl) (by kernel_rfl) (.free rfl) rfl rfl (qt_extract rfl rfl rfl) (fun _ _ _ h => h) ?_
                      refine ga_op 9 (by kernel_rfl) rfl (.free rfl) fun K114 hK114 => ?_
                      refine go_storeS (n := 15) rfl rfl rfl rfl (by kernel_rfl) rfl rfl rfl ?_
                      refine hK114 _ _ (fun w M => (mem_take 14 M :)) ?_
                      refine ga_v 10 rfl (by kernel_rfl) (by kernel_rfl) (by kernel_rfl) (.free rfl) rfl rfl (qt_assign rfl rfl) (fun _ _ _ h => h) ?_
                      refine ga_done (by kernel_rfl) ?_
                      refine gk_then (hK72 _ _ ?_)
                      refine gc_seq fun K115 hK115 => ?_
                      refine gc_seq fun K116 hK116 => ?_
                      refine gc_region ?_
                      refine g_v (.free rfl) rfl rfl (qt_loadS (n := 15) rfl rfl Try.underlying34 rfl (by kernel_rfl) rfl) ?_
                      refine g_v (.free rfl) rfl rfl (qt_loadS (n := 5) rfl rfl Try.underlying34 rfl (by kernel_rfl) rfl) ?_
                      refine g_q (.free rfl) rfl rfl (qt_call rfl Try.func24 rfl (by decide) rfl (fun w M => eqF_refl_any w _ _ _ ((mem_ownF (n := 17) M rfl).rd) ((mem_ownF (n := 4) M rfl).rd))) ?_
                      refine g_v (.free rfl) rfl rfl (qt_not rfl rfl) ?_
                      refine g_v (.free rfl) rfl rfl (qt_move rfl rfl) ?_
                      refine g_v (.held _ _ _ rfl rfl rfl) rfl rfl (qt_move rfl rfl) ?_
                      refine g_v (.held _ _ _ rfl rfl rfl) rfl rfl (qt_move rfl rfl) ?_
                      refine g_v (.held _ _ _ rfl rfl rfl) rfl rfl (qt_neq_f rfl rfl rfl (fun h => h rfl)) ?_
                      refine g_v (.free rfl) rfl rfl (qt_pick_f rfl rfl rfl) ?_
                      refine g_nil ?_
                      refine gk_then (hK116 _ _ ?_)
                      refine gc_cond_f rfl ?_
                      refine gc_skip ?_
                      refine gk_then (hK115 _ _ ?_)
                      refine gc_seq fun K117 hK117 => ?_
                      refine gc_region ?_
                      refine g_v (.free rfl) rfl rfl (qt_assign rfl rfl) ?_
                      refine g_nil ?_
                      refine gk_then (hK117 _ _ ?_)
                      refine gc_seq fun K118 hK118 => ?_
                      refine gc_region ?_
                      refine g_v (.free rfl) rfl rfl (qt_loadS (n := 11) rfl rfl Try.underlying34 rfl (by kernel_rfl) rfl) ?_
                      refine g_v (.free rfl) rfl rfl (qt_move rfl rfl) ?_
                      refine g_q (.free rfl) rfl rfl (qt_call rfl Try.func42 rfl (by decide) rfl (fun w M => heldF_any w _ _ _ ((mem_ownF (n := 10) M rfl).rd) (by first | assumption | omega) (by first | assumption | omega))) ?_
                      refine g_v (.free rfl) rfl rfl (qt_assign rfl rfl) ?_
                      refine g_nil ?_
                      refine gk_then (hK118 _ _ ?_)
                      refine gc_seq fun K119 hK119 => ?_
                      refine gc_seq fun K120 hK120 => ?_
                      refine gc_region ?_
                      refine g_v (.free rfl) rfl rfl (qt_move rfl rfl) ?_
                      refine g_v (.free rfl) rfl rfl (qt_lss rfl rfl rfl) ?_
                      refine g_nil ?_
                      refine gk_then (hK120 _ _ ?_)
                      refine gc_cond rfl (fun hc8 => ?_) (fun hc8 => ?_)
                      · try simp only [decide_eq_true_eq, decide_eq_false_iff_not, Bool.not_eq_true', Bool.not_eq_false', Bool.not_eq_eq_eq_not, Bool.not_true, Bool.not_false, ne_eq, Decidable.not_not, Classical.not_not] at hc8
                        first | (exfalso; omega) | exact absurd rfl hc8 | (simp at hc8)
                      · try simp only [decide_eq_true_eq, decide_eq_false_iff_not, Bool.not_eq_true', Bool.not_eq_false', Bool.not_eq_eq_eq_not, Bool.not_true, Bool.not_false, ne_eq, Decidable.not_not, Classical.not_not] at hc8
                        refine gc_skip ?_
                        refine gk_then (hK119 _ _ ?_)
                        refine gc_seq fun K121 hK121 => ?_
                        refine gc_seq fun K122 hK122 => ?_
                        refine gc_region ?_
                        refine g_v (.free rfl) rfl rfl (qt_move rfl rfl) ?_
                        refine g_v (.free rfl) rfl rfl (qt_move rfl rfl) ?_
                        refine g_v (.free rfl) rfl rfl (qt_neq rfl rfl rfl) ?_
                        refine g_nil ?_
                        refine gk_then (hK122 _ _ ?_)
                        refine gc_cond rfl (fun hc9 => ?_) (fun hc9 => ?_)
                        · try simp only [decide_eq_true_eq, decide_eq_false_iff_not, Bool.not_eq_true', Bool.not_eq_false', Bool.not_eq_eq_eq_not, Bool.not_true, Bool.not_false, ne_eq, Decidable.not_not, Classical.not_not] at hc9
                          first | (exfalso; omega) | exact absurd rfl hc9 | (simp at hc9)
                        · try simp only [decide_eq_true_eq, decide_eq_false_iff_not, Bool.not_eq_true', Bool.not_eq_false', Bool.not_eq_eq_eq_not, Bool.not_true, Bool.not_false, ne_eq, Decidable.not_not, Classical.not_not] at hc9
                          refine gc_skip ?_
                          refine gk_then (hK121 _ _ ?_)
                          refine gc_seq fun K123 hK123 => ?_
                          refine gc_region ?_
                          refine g_v (.free rfl) rfl rfl (qt_assign rfl rfl) ?_
                          refine g_nil ?_
                          refine gk_then (hK123 _ _ ?_)
                          refine gc_ret ?_
                          refine ret_1 rfl rfl  (fun w M => ?_)
                          exact ⟨rfl, M.1⟩
                  · refine go_alloc (z := (.agg #[.int .i64 0, .slice none 0 0, .slice none 0 0, .slice none 0 0, .slice none 0 0, .int .i64 0, .slice none 0 0, .slice none 0 0, .slice none 0 0, .slice none 0 0, .slice none 0 0, .slice none 0 0])) (cs := [.int .i64 0, .slice none 0 0, .slice none 0 0, .slice none 0 0, .slice none 0 0, .int .i64 0, .slice none 0 0, .slice none 0 0, .slice none 0 0, .slice none 0 0, .slice none 0 0, .slice none 0 0]) rfl rfl rfl (fun w => by kernel_rfl) rfl ?_
                    intro B124
                    refine hK73 _ _ (fun w M => (mem_take 14 M :)) ?_
                    refine ga_op 1 (by kernel_rfl) rfl (.free rfl) fun K127 hK127 => ?_
                    refine go_callFn1 rfl rfl rfl Try.func22 rfl (by decide) rfl (fun w M => toF_any w _ _ (mem_rdF M R0)) ?_
                    intro fx1_126 fk1_126 fx2_126 fk2_126 fx3_126 fk3_126 fx4_126 fk4_126 fx5_126 fk5_126 fx6_126 fk6_126 fx7_126 fk7_126 fx8_126 fk8_126 fx9_126 fk9_126 fx10_126 fk10_126
                    refine hK127 _ _ (fun w M => (mem_take 14 M :)) ?_
                    refine ga_op 3 (by kernel_rfl) rfl (.free rfl) fun K129 hK129 => ?_
                    refine go_callFn1 rfl rfl rfl Try.func22 rfl (by decide) rfl (fun w M => toF_any w _ _ (mem_rdF M R1)) ?_
                    intro fx1_128 fk1_128 fx2_128 fk2_128 fx3_128 fk3_128 fx4_128 fk4_128 fx5_128 fk5_128 fx6_128 fk6_128 fx7_128 fk7_128 fx8_128 fk8_128 fx9_128 fk9_128 fx10_128 fk10_128
                    refine hK129 _ _ (fun w M => (mem_take 14 M :)) ?_
                    refine ga_op 4 (by kernel_rfl) rfl (.free rfl) fun K131 hK131 => ?_
                    refine go_callFI1 rfl rfl rfl Try.func41 rfl (by decide) rfl (fun w M => himpl w _ _ ((mem_ownF (n := 15) M rfl).rd) ((mem_ownF (n := 16) M rfl).rd)) ?_
                    intro fx1_130 fk1_130 fx2_130 fk2_130 fx3_130 fk3_130 fx4_130 fk4_130 fx5_130 fk5_130 fx6_130 fk6_130 fx7_130 fk7_130 fx8_130 fk8_130 fx9_130 fk9_130 fx10_130 fk10_130
                    refine hK131 _ _ (fun w M => (mem_take 14 M :)) ?_
                    refine ga_v 5 rfl (by kernel_rfl) (by kernel_rfl) (by kernel_rfl) (.free rfl) rfl rfl (qt_move rfl rfl) (fun _ _ _ h => h) ?_
                    refine ga_v 6 rfl (by kernel_rfl) (by kernel_rfl) (by kernel_rfl) (.free rfl) rfl rfl (qt_extract rfl rfl rfl) (fun _ _ _ h => h) ?_
                    refine ga_v 7 rfl (by kernel_rfl) (by kernel_rfl) (by kernel_rfl) (.free rfl) rfl rfl (qt_extract rfl rfl rfl) (fun _ _ _ h => h) ?_
                    refine ga_op 9 (by kernel_rfl) rfl (.free rfl) fun K132 hK132 => ?_
                    refine go_storeS (n := 14) rfl rfl rfl rfl (by kernel_rfl) rfl rfl rfl ?_
                    refine hK132 _ _ (fun w M => (mem_take 14 M :)) ?_
                    refine ga_v 10 rfl (by kernel_rfl) (by kernel_rfl) (by kernel_rfl) (.free rfl) rfl rfl (qt_assign rfl rfl) (fun _ _ _ h => h) ?_
                    refine ga_done (by kernel_rfl) ?_
                    refine gk_then (hK72 _ _ ?_)
                    refine gc_seq fun K133 hK133 => ?_
                    refine gc_seq fun K134 hK134 => ?_
                    refine gc_region ?_
                    refine g_v (.free rfl) rfl rfl (qt_loadS (n := 14) rfl rfl Try.underlying34 rfl (by kernel_rfl) rfl) ?_
                    refine g_v (.free rfl) rfl rfl (qt_loadS (n := 5) rfl rfl Try.underlying34 rfl (by kernel_rfl) rfl) ?_
                    refine g_q (.free rfl) rfl rfl (qt_call rfl Try.func24 rfl (by decide) rfl (fun w M => eqF_refl_any w _ _ _ ((mem_ownF (n := 17) M rfl).rd) ((mem_ownF (n := 4) M rfl).rd))) ?_
                    refine g_v (.free rfl) rfl rfl (qt_not rfl rfl) ?_
                    refine g_v (.free rfl) rfl rfl (qt_move rfl rfl) ?_
                    refine g_v (.held _ _ _ rfl rfl rfl) rfl rfl (qt_move rfl rfl) ?_
                    refine g_v (.held _ _ _ rfl rfl rfl) rfl rfl (qt_move rfl rfl) ?_
                    refine g_v (.held _ _ _ rfl rfl rfl) rfl rfl (qt_neq_f rfl rfl rfl (fun h => h rfl)) ?_
                    refine g_v (.free rfl) rfl rfl (qt_pick_f rfl rfl rfl) ?_
                    refine g_nil ?_
                    refine gk_then (hK134 _ _ ?_)
                    refine gc_cond_f rfl ?_
                    refine gc_skip ?_
                    refine gk_then (hK133 _ _ ?_)
                    refine gc_seq fun K135 hK135 => ?_
                    refine gc_region ?_
                    refine g_v (.free rfl) rfl rfl (qt_assign rfl rfl) ?_
                    refine g_nil ?_
                    refine gk_then (hK135 _ _ ?_)
                    refine gc_seq fun K136 hK136 => ?_
                    refine gc_region ?_
                    refine g_v (.free rfl) rfl rfl (qt_loadS (n := 11) rfl rfl Try.underlying34 rfl (by kernel_rfl) rfl) ?_
                    refine g_v (.free rfl) rfl rfl (qt_move rfl rfl) ?_
                    refine g_q (.free rfl) rfl rfl (qt_call rfl Try.func42 rfl (by decide) rfl (fun w M => heldF_any w _ _ _ ((mem_ownF (n := 10) M rfl).rd) (by first | assumption | omega) (by first | assumption | omega))) ?_
                    refine g_v (.free rfl) rfl rfl (qt_assign rfl rfl) ?_
                    refine g_nil ?_
                    refine gk_then (hK136 _ _ ?_)
                    refine gc_seq fun K137 hK137 => ?_
                    refine gc_seq fun K138 hK138 => ?_
                    refine gc_region ?_
                    refine g_v (.free rfl) rfl rfl (qt_move rfl rfl) ?_
                    refine g_v (.free rfl) rfl rfl (qt_lss rfl rfl rfl) ?_
                    refine g_nil ?_
                    refine gk_then (hK138 _ _ ?_)
                    refine gc_cond rfl (fun hc10 => ?_) (fun hc10 => ?_)
                    · try simp only [decide_eq_true_eq, decide_eq_false_iff_not, Bool.not_eq_true', Bool.not_eq_false', Bool.not_eq_eq_eq_not, Bool.not_true, Bool.not_false, ne_eq, Decidable.not_not, Classical.not_not] at hc10
                      first | (exfalso; omega) | exact absurd rfl hc10 | (simp at hc10)
                    · try simp only [decide_eq_true_eq, decide_eq_false_iff_not, Bool.not_eq_true', Bool.not_eq_false', Bool.not_eq_eq_eq_not, Bool.not_true, Bool.not_false, ne_eq, Decidable.not_not, Classical.not_not] at hc10
                      refine gc_skip ?_
                      refine gk_then (hK137 _ _ ?_)
                      refine gc_seq fun K139 hK139 => ?_
                      refine gc_seq fun K140 hK140 => ?_
                      refine gc_region ?_
                      refine g_v (.free rfl) rfl rfl (qt_move rfl rfl) ?_
                      refine g_v (.free rfl) rfl rfl (qt_move rfl rfl) ?_
                      refine g_v (.free rfl) rfl rfl (qt_neq rfl rfl rfl) ?_
                      refine g_nil ?_
                      refine gk_then (hK140 _ _ ?_)
                      refine gc_cond rfl (fun hc11 => ?_) (fun hc11 => ?_)
                      · try simp only [decide_eq_true_eq, decide_eq_false_iff_not, Bool.not_eq_true', Bool.not_eq_false', Bool.not_eq_eq_eq_not, Bool.not_true, Bool.not_false, ne_eq, Decidable.not_not, Classical.not_not] at hc11
                        first | (exfalso; omega) | exact absurd rfl hc11 | (simp at hc11)
                      · try simp only [decide_eq_true_eq, decide_eq_false_iff_not, Bool.not_eq_true', Bool.not_eq_false', Bool.not_eq_eq_eq_not, Bool.not_true, Bool.not_false, ne_eq, Decidable.not_not, Classical.not_not] at hc11
                        refine gc_skip ?_
                        refine gk_then (hK139 _ _ ?_)
                        refine gc_seq fun K141 hK141 => ?_
                        refine gc_region ?_
                        refine g_v (.free rfl) rfl rfl (qt_assign rfl rfl) ?_
                        refine g_nil ?_
                        refine gk_then (hK141 _ _ ?_)
                        refine gc_ret ?_
                        refine ret_1 rfl rfl  (fun w M => ?_)
                        exact ⟨rfl, M.1⟩
          · refine go_alloc (z := (.agg #[.int .i64 0, .slice none 0 0, .slice none 0 0, .slice none 0 0, .slice none 0 0, .int .i64 0, .slice none 0 0, .slice none 0 0, .slice none 0 0, .slice none 0 0, .slice none 0 0, .slice none 0 0])) (cs := [.int .i64 0, .slice none 0 0, .slice none 0 0, .slice none 0 0, .slice none 0 0, .int .i64 0, .slice none 0 0, .slice none 0 0, .slice none 0 0, .slice none 0 0, .slice none 0 0, .slice none 0 0]) rfl rfl rfl (fun w => by kernel_rfl) rfl ?_
            intro B142
            refine hK20 _ _ (fun w M => (mem_take 2 M :)) ?_
            refine ga_op 4 (by kernel_rfl) rfl (.free rfl) fun K145 hK145 => ?_
            refine go_callFI1 rfl rfl rfl Try.func40 rfl (by decide) rfl (fun w M => hspec w _ _ ((mem_ownF (n := 2) M rfl).rd) ((mem_ownF (n := 3) M rfl).rd)) ?_
            intro fx1_144 fk1_144 fx2_144 fk2_144 fx3_144 fk3_144 fx4_144 fk4_144 fx5_144 fk5_144 fx6_144 fk6_144 fx7_144 fk7_144 fx8_144 fk8_144 fx9_144 fk9_144 fx10_144 fk10_144
            refine hK145 _ _ (fun w M => (mem_take 2 M :)) ?_
            refine ga_v 5 rfl (by kernel_rfl) (by kernel_rfl) (by kernel_rfl) (.free rfl) rfl rfl (qt_move rfl rfl) (fun _ _ _ h => h) ?_
            refine ga_v 6 rfl (by kernel_rfl) (by kernel_rfl) (by kernel_rfl) (.free rfl) rfl rfl (qt_extract rfl rfl rfl) (fun _ _ _ h => h) ?_
            refine ga_v 7 rfl (by kernel_rfl) (by kernel_rfl) (by kernel_rfl) (.free rfl) rfl rfl (qt_extract rfl rfl rfl) (fun _ _ _ h => h) ?_
            refine ga_op 9 (by kernel_rfl) rfl (.free rfl) fun K146 hK146 => ?_
            refine go_storeS (n := 4) rfl rfl rfl rfl (by kernel_rfl) rfl rfl rfl ?_
            refine hK146 _ _ (fun w M => (mem_take 2 M :)) ?_
            refine ga_v 10 rfl (by kernel_rfl) (by kernel_rfl) (by kernel_rfl) (.free rfl) rfl rfl (qt_assign rfl rfl) (fun _ _ _ h => h) ?_
            refine ga_done (by kernel_rfl) ?_
            refine gk_then (hK13 _ _ ?_)
            refine gc_seq fun K147 hK147 => ?_
            refine gc_region ?_
            refine g_v (.free rfl) rfl rfl (qt_loadS (n := 0) rfl rfl Try.underlying27 rfl (by kernel_rfl) rfl) ?_
            refine g_op (.free rfl) fun K149 hK149 => ?_
            refine go_callFn1 rfl rfl rfl Try.func22 rfl (by decide) rfl (fun w M => toF_any w _ _ (mem_rdF M R0)) ?_
            intro fx1_148 fk1_148 fx2_148 fk2_148 fx3_148 fk3_148 fx4_148 fk4_148 fx5_148 fk5_148 fx6_148 fk6_148 fx7_148 fk7_148 fx8_148 fk8_148 fx9_148 fk9_148 fx10_148 fk10_148
            refine hK149 _ _ ?_
            refine g_op (.free rfl) fun K151 hK151 => ?_
            refine go_alloc (z := (.agg #[.int .i64 0, .slice none 0 0, .slice none 0 0, .slice none 0 0, .slice none 0 0, .int .i64 0, .slice none 0 0, .slice none 0 0, .slice none 0 0, .slice none 0 0, .slice none 0 0, .slice none 0 0])) (cs := [.int .i64 0, .slice none 0 0, .slice none 0 0, .slice none 0 0, .slice none 0 0, .int .i64 0, .slice none 0 0, .slice none 0 0, .slice none 0 0, .slice none 0 0, .slice none 0 0, .slice none 0 0]) rfl rfl rfl (fun w => by kernel_rfl) rfl ?_
            intro B150
            refine hK151 _ _ ?_
            refine g_op (.free rfl) fun K152 hK152 => ?_
            refine go_storeS (n := 7) rfl rfl rfl rfl (by kernel_rfl) rfl rfl rfl ?_
            refine hK152 _ _ ?_
            refine g_nil ?_
            refine gk_then (hK147 _ _ ?_)
            refine gc_seq fun K153 hK153 => ?_
            refine gc_region ?_
            refine g_v (.free rfl) rfl rfl (qt_loadS (n := 1) rfl rfl Try.underlying27 rfl (by kernel_rfl) rfl) ?_
            refine g_op (.free rfl) fun K155 hK155 => ?_
            refine go_callFn1 rfl rfl rfl Try.func22 rfl (by decide) rfl (fun w M => toF_any w _ _ (mem_rdF M R1)) ?_
            intro fx1_154 fk1_154 fx2_154 fk2_154 fx3_154 fk3_154 fx4_154 fk4_154 fx5_154 fk5_154 fx6_154 fk6_154 fx7_154 fk7_154 fx8_154 fk8_154 fx9_154 fk9_154 fx10_154 fk10_154
            refine hK155 _ _ ?_
            refine g_op (.free rfl) fun K157 hK157 => ?_
            refine go_alloc (z := (.agg #[.int .i64 0, .slice none 0 0, .slice none 0 0, .slice none 0 0, .slice none 0 0, .int .i64 0, .slice none 0 0, .slice none 0 0, .slice none 0 0, .slice none 0 0, .slice none 0 0, .slice none 0 0])) (cs := [.int .i64 0, .slice none 0 0, .slice none 0 0, .slice none 0 0, .slice none 0 0, .int .i64 0, .slice none 0 0, .slice none 0 0, .slice none 0 0, .slice none 0 0, .slice none 0 0, .slice none 0 0]) rfl rfl rfl (fun w => by kernel_rfl) rfl ?_
            intro B156
            refine hK157 _ _ ?_
            refine g_op (.free rfl) fun K158 hK158 => ?_
            refine go_storeS (n := 9) rfl rfl rfl rfl (by kernel_rfl) rfl rfl rfl ?_
            refine hK158 _ _ ?_
            refine g_nil ?_
            refine gk_then (hK153 _ _ ?_)
            refine gc_seq fun K159 hK159 => ?_
            refine gc_region ?_
            refine g_v (.free rfl) rfl rfl (qt_loadS (n := 7) rfl rfl Try.underlying34 rfl (by kernel_rfl) rfl) ?_
            refine g_v (.free rfl) rfl rfl (qt_loadS (n := 9) rfl rfl Try.underlying34 rfl (by kernel_rfl) rfl) ?_
            refine g_op (.free rfl) fun K161 hK161 => ?_
            refine go_callFI1 rfl rfl rfl Try.func41 rfl (by decide) rfl (fun w M => himpl w _ _ ((mem_ownF (n := 6) M rfl).rd) ((mem_ownF (n := 8) M rfl).rd)) ?_
            intro fx1_160 fk1_160 fx2_160 fk2_160 fx3_160 fk3_160 fx4_160 fk4_160 fx5_160 fk5_160 fx6_160 fk6_160 fx7_160 fk7_160 fx8_160 fk8_160 fx9_160 fk9_160 fx10_160 fk10_160
            refine hK161 _ _ ?_
            refine g_v (.free rfl) rfl rfl (qt_move rfl rfl) ?_
            refine g_v (.free rfl) rfl rfl (qt_extract rfl rfl rfl) ?_
            refine g_v (.free rfl) rfl rfl (qt_extract rfl rfl rfl) ?_
            refine g_op (.free rfl) fun K163 hK163 => ?_
            refine go_alloc (z := (.agg #[.int .i64 0, .slice none 0 0, .slice none 0 0, .slice none 0 0, .slice none 0 0, .int .i64 0, .slice none 0 0, .slice none 0 0, .slice none 0 0, .slice none 0 0, .slice none 0 0, .slice none 0 0])) (cs := [.int .i64 0, .slice none 0 0, .slice none 0 0, .slice none 0 0, .slice none 0 0, .int .i64 0, .slice none 0 0, .slice none 0 0, .slice none 0 0, .slice none 0 0, .slice none 0 0, .slice none 0 0]) rfl rfl rfl (fun w => by kernel_rfl) rfl ?_
            intro B162
            refine hK163 _ _ ?_
            refine g_op (.free rfl) fun K164 hK164 => ?_
            refine go_storeS (n := 11) rfl rfl rfl rfl (by kernel_rfl) rfl rfl rfl ?_
            refine hK164 _ _ ?_
            refine g_v (.free rfl) rfl rfl (qt_assign rfl rfl) ?_
            refine g_nil ?_
            refine gk_then (hK159 _ _ ?_)
            refine gc_seq fun K165 hK165 => ?_
            refine gc_seq fun K166 hK166 => ?_
            refine gc_region ?_
            refine g_v (.free rfl) rfl rfl (qt_loadS (n := 11) rfl rfl Try.underlying34 rfl (by kernel_rfl) rfl) ?_
            refine g_v (.free rfl) rfl rfl (qt_loadS (n := 4) rfl rfl Try.underlying34 rfl (by kernel_rfl) rfl) ?_
            refine g_q (.free rfl) rfl rfl (qt_call rfl Try.func24 rfl (by decide) rfl (fun w M => eqF_refl_any w _ _ _ ((mem_ownF (n := 10) M rfl).rd) ((mem_ownF (n := 5) M rfl).rd))) ?_
            refine g_v (.free rfl) rfl rfl (qt_not rfl rfl) ?_
            refine g_v (.free rfl) rfl rfl (qt_move rfl rfl) ?_
            refine g_v (.held _ _ _ rfl rfl rfl) rfl rfl (qt_move rfl rfl) ?_
            refine g_v (.held _ _ _ rfl rfl rfl) rfl rfl (qt_move rfl rfl) ?_
            refine g_v (.held _ _ _ rfl rfl rfl) rfl rfl (qt_neq_f rfl rfl rfl (fun h => h rfl)) ?_
            refine g_v (.free rfl) rfl rfl (qt_pick_f rfl rfl rfl) ?_
            refine g_nil ?_
            refine gk_then (hK166 _ _ ?_)
            refine gc_cond_f rfl ?_
            refine gc_skip ?_
            refine gk_then (hK165 _ _ ?_)
            refine gc_seq fun K167 hK167 => ?_
            refine gc_seq fun K168 hK168 => ?_
            try simp only [List.nil_append, List.cons_append, List.append_assoc, List.set_cons_succ, List.set_cons_zero]
            refine ga_start _ (fun w M => M) ?_
            refine ga_v 0 rfl (by kernel_rfl) (by kernel_rfl) (by kernel_rfl) (.free rfl) rfl rfl (qt_loadS (n := 7) rfl rfl Try.underlying34 rfl (by kernel_rfl) rfl) (fun _ _ _ h => h) ?_
            refine ga_v 1 rfl (by kernel_rfl) (by kernel_rfl) (by kernel_rfl) (.free rfl) rfl rfl (qt_loadS (n := 0) rfl rfl Try.underlying27 rfl (by kernel_rfl) rfl) (fun _ _ _ h => h) ?_
            refine ga_op 2 (by kernel_rfl) rfl (.free rfl) fun K170 hK170 => ?_
            refine go_callFn1 rfl rfl rfl Try.func22 rfl (by decide) rfl (fun w M => toF_any w _ _ (mem_rdF M R0)) ?_
            intro fx1_169 fk1_169 fx2_169 fk2_169 fx3_169 fk3_169 fx4_169 fk4_169 fx5_169 fk5_169 fx6_169 fk6_169 fx7_169 fk7_169 fx8_169 fk8_169 fx9_169 fk9_169 fx10_169 fk10_169
            refine hK170 _ _ (fun w M => (mem_take 12 M :)) ?_
            refine ga_op 3 (by kernel_rfl) rfl (.free rfl) fun K171 hK171 => ?_
            refine go_q rfl rfl (qt_call rfl Try.func24 rfl (by decide) rfl (fun w M => eqF_refl_any w _ _ _ ((mem_ownF (n := 6) M rfl).rd) ((mem_ownF (n := 12) M rfl).rd))) ?_
            refine hK171 _ _ (fun w M => (mem_take 12 M :)) ?_
            refine ga_v 4 rfl (by kernel_rfl) (by kernel_rfl) (by kernel_rfl) (.free rfl) rfl rfl (qt_not rfl rfl) (fun _ _ _ h => h) ?_
            refine ga_done (by kernel_rfl) ?_
            refine gk_then (hK168 _ _ ?_)
            refine gc_cond_f rfl ?_
            refine gc_skip ?_
            refine gk_then (hK167 _ _ ?_)
            refine gc_seq fun K172 hK172 => ?_
            refine gc_seq fun K173 hK173 => ?_
            try simp only [List.nil_append, List.cons_append, List.append_assoc, List.set_cons_succ, List.set_cons_zero]
            refine ga_start _ (fun w M => M) ?_
            refine ga_v 0 rfl (by kernel_rfl) (by kernel_rfl) (by kernel_rfl) (.free rfl) rfl rfl (qt_loadS (n := 9) rfl rfl Try.underlying34 rfl (by kernel_rfl) rfl) (fun _ _ _ h => h) ?_
            refine ga_v 1 rfl (by kernel_rfl) (by kernel_rfl) (by kernel_rfl) (.free rfl) rfl rfl (qt_loadS (n := 1) rfl rfl Try.underlying27 rfl (by kernel_rfl) rfl) (fun _ _ _ h => h) ?_
            refine ga_op 2 (by kernel_rfl) rfl (.free rfl) fun K175 hK175 => ?_
            refine go_callFn1 rfl rfl rfl Try.func22 rfl (by decide) rfl (fun w M => toF_any w _ _ (mem_rdF M R1)) ?_
            intro fx1_174 fk1_174 fx2_174 fk2_174 fx3_174 fk3_174 fx4_174 fk4_174 fx5_174 fk5_174 fx6_174 fk6_174 fx7_174 fk7_174 fx8_174 fk8_174 fx9_174 fk9_174 fx10_174 fk10_174
            refine hK175 _ _ (fun w M => (mem_take 13 M :)) ?_
            refine ga_op 3 (by kernel_rfl) rfl (.free rfl) fun K176 hK176 => ?_
            refine go_q rfl rfl (qt_call rfl Try.func24 rfl (by decide) rfl (fun w M => eqF_refl_any w _ _ _ ((mem_ownF (n := 8) M rfl).rd) ((mem_ownF (n := 13) M rfl).rd))) ?_
            refine hK176 _ _ (fun w M => (mem_take 13 M :)) ?_
            refine ga_v 4 rfl (by kernel_rfl) (by kernel_rfl) (by kernel_rfl) (.free rfl) rfl rfl (qt_not rfl rfl) (fun _ _ _ h => h) ?_
            refine ga_done (by kernel_rfl) ?_
            refine gk_then (hK173 _ _ ?_)
            refine gc_cond_f rfl ?_
            refine gc_skip ?_
            refine gk_then (hK172 _ _ ?_)
            refine gc_seq fun K177 hK177 => ?_
            refine gc_region ?_
            refine g_v (.free rfl) rfl rfl (qt_assign rfl rfl) ?_
            refine g_nil ?_
            refine gk_then (hK177 _ _ ?_)
            refine gc_seq fun K178 hK178 => ?_
            refine gc_region ?_
            refine g_v (.free rfl) rfl rfl (qt_loadS (n := 7) rfl rfl Try.underlying34 rfl (by kernel_rfl) rfl) ?_
            refine g_v (.free rfl) rfl rfl (qt_move rfl rfl) ?_
            refine g_op (.free rfl) fun K179 hK179 => ?_
            refine go_one (n := 6) rfl rfl rfl Try.func25 rfl (by decide) rfl rfl (fun R w M => markF1_any _ w R _ _ _ _ _ _ _ _ _ _ _ _ (by omega) (by omega) M) ?_
            refine hK179 _ _ ?_
            refine g_v (.free rfl) rfl rfl (qt_assign rfl rfl) ?_
            refine g_nil ?_
            refine gk_then (hK178 _ _ ?_)
            refine gc_seq fun K180 hK180 => ?_
            refine gc_region ?_
            refine g_v (.free rfl) rfl rfl (qt_loadS (n := 9) rfl rfl Try.underlying34 rfl (by kernel_rfl) rfl) ?_
            refine g_v (.free rfl) rfl rfl (qt_move rfl rfl) ?_
            refine g_op (.free rfl) fun K181 hK181 => ?_
            refine go_one (n := 8) rfl rfl rfl Try.func25 rfl (by decide) rfl rfl (fun R w M => markF1_any _ w R _ _ _ _ _ _ _ _ _ _ _ _ (by omega) (by omega) M) ?_
            refine hK181 _ _ ?_
            refine g_v (.free rfl) rfl rfl (qt_assign rfl rfl) ?_
            refine g_nil ?_
            refine gk_then (hK180 _ _ ?_)
            refine gc_seq fun K182 hK182 => ?_
            refine gc_seq fun K183 hK183 => ?_
            refine gc_region ?_
            refine g_v (.free rfl) rfl rfl (qt_move rfl rfl) ?_
            refine g_v (.free rfl) rfl rfl (qt_lss rfl rfl rfl) ?_
            refine g_splitv (.free rfl) rfl rfl (qt_move rfl rfl) (fun hs21_2 => ?_) (fun hs21_2 => ?_)
            · try simp only [decide_eq_true_eq, decide_eq_false_iff_not, Bool.not_eq_true', Bool.not_eq_false', Bool.not_eq_eq_eq_not, Bool.not_true, Bool.not_false, ne_eq, Decidable.not_not, Classical.not_not] at hs21_2
              first | (exfalso; omega) | exact absurd rfl hs21_2 | (simp at hs21_2)
            · try simp only [decide_eq_true_eq, decide_eq_false_iff_not, Bool.not_eq_true', Bool.not_eq_false', Bool.not_eq_eq_eq_not, Bool.not_true, Bool.not_false, ne_eq, Decidable.not_not, Classical.not_not] at hs21_2
              refine g_v (.held _ _ _ rfl rfl rfl) rfl rfl (qt_loadS (n := 11) rfl rfl Try.underlying34 rfl (by kernel_rfl) rfl) ?_
              refine g_v (.held _ _ _ rfl rfl rfl) rfl rfl (qt_loadS (n := 4) rfl rfl Try.underlying34 rfl (by kernel_rfl) rfl) ?_
              refine g_q (.held _ _ _ rfl rfl rfl) rfl rfl (qt_call rfl Try.func24 rfl (by decide) rfl (fun w M => eqF_refl_any w _ _ _ ((mem_ownF (n := 10) M rfl).rd) ((mem_ownF (n := 5) M rfl).rd))) ?_
              refine g_v (.held _ _ _ rfl rfl rfl) rfl rfl (qt_not rfl rfl) ?_
              refine g_v (.free rfl) rfl rfl (qt_pick_f rfl rfl rfl) ?_
              refine g_v (.free rfl) rfl rfl (qt_move rfl rfl) ?_
              refine g_v (.held _ _ _ rfl rfl rfl) rfl rfl (qt_move rfl rfl) ?_
              refine g_v (.held _ _ _ rfl rfl rfl) rfl rfl (qt_move rfl rfl) ?_
              refine g_v (.held _ _ _ rfl rfl rfl) rfl rfl (qt_neq_f rfl rfl rfl (fun h => h rfl)) ?_
              refine g_v (.free rfl) rfl rfl (qt_pick_f rfl rfl rfl) ?_
              refine g_nil ?_
              refine gk_then (hK183 _ _ ?_)
              refine gc_cond_f rfl ?_
              refine gc_skip ?_
              refine gk_then (hK182 _ _ ?_)
              refine gc_seq fun K184 hK184 => ?_
              refine gc_region ?_
              refine g_v (.free rfl) rfl rfl (qt_assign rfl rfl) ?_
              refine g_nil ?_
              refine gk_then (hK184 _ _ ?_)
              refine gc_seq fun K185 hK185 => ?_
              refine gc_region ?_
              refine g_v (.free rfl) rfl rfl (qt_loadS (n := 11) rfl rfl Try.underlying34 rfl (by kernel_rfl) rfl) ?_
              refine g_v (.free rfl) rfl rfl (qt_move rfl rfl) ?_
              refine g_op (.free rfl) fun K186 hK186 => ?_
              refine go_one (n := 10) rfl rfl rfl Try.func25 rfl (by decide) rfl rfl (fun R w M => markF1_any _ w R _ _ _ _ _ _ _ _ _ _ _ _ (by omega) (by omega) M) ?_
              refine hK186 _ _ ?_
              refine g_v (.free rfl) rfl rfl (qt_assign rfl rfl) ?_
              refine g_nil ?_
              refine gk_then (hK185 _ _ ?_)
              refine gc_seq fun K187 hK187 => ?_
              refine gc_region ?_
              refine g_v (.free rfl) rfl rfl (qt_assign rfl rfl) ?_
              refine g_nil ?_
              refine gk_then (hK187 _ _ ?_)
              refine gc_seq fun K188 hK188 => ?_
              refine gc_region ?_
              refine g_v (.free rfl) rfl rfl (qt_loadS (n := 11) rfl rfl Try.underlying34 rfl (by kernel_rfl) rfl) ?_
              refine g_v (.free rfl) rfl rfl (qt_move rfl rfl) ?_
              refine g_q (.free rfl) rfl rfl (qt_call rfl Try.func42 rfl (by decide) rfl (fun w M => heldF_any w _ _ _ ((mem_ownF (n := 10) M rfl).rd) (by first | assumption | omega) (by first | assumption | omega))) ?_
              refine g_v (.free rfl) rfl rfl (qt_assign rfl rfl) ?_
              refine g_nil ?_
              refine gk_then (hK188 _ _ ?_)
              refine gc_seq fun K189 hK189 => ?_
              refine gc_seq fun K190 hK190 => ?_
              refine gc_region ?_
              refine g_v (.free rfl) rfl rfl (qt_move rfl rfl) ?_
              refine g_v (.free rfl) rfl rfl (qt_lss rfl rfl rfl) ?_
              refine g_nil ?_
              refine gk_then (hK190 _ _ ?_)
              refine gc_cond rfl (fun hc12 => ?_) (fun hc12 => ?_)
              · try simp only [decide_eq_true_eq, decide_eq_false_iff_not, Bool.not_eq_true', Bool.not_eq_false', Bool.not_eq_eq_eq_not, Bool.not_true, Bool.not_false, ne_eq, Decidable.not_not, Classical.not_not] at hc12
                first | (exfalso; omega) | exact absurd rfl hc12 | (simp at hc12)
              · try simp only [decide_eq_true_eq, decide_eq_false_iff_not, Bool.not_eq_true', Bool.not_eq_false', Bool.not_eq_eq_eq_not, Bool.not_true, Bool.not_false, ne_eq, Decidable.not_not, Classical.not_not] at hc12
                refine gc_skip ?_
                refine gk_then (hK189 _ _ ?_)
                refine gc_seq fun K191 hK191 => ?_
                refine gc_seq fun K192 hK192 => ?_
                refine gc_region ?_
                refine g_v (.free rfl) rfl rfl (qt_move rfl rfl) ?_
                refine g_v (.free rfl) rfl rfl (qt_move rfl rfl) ?_
                refine g_v (.free rfl) rfl rfl (qt_neq rfl rfl rfl) ?_
                refine g_nil ?_
                refine gk_then (hK192 _ _ ?_)
                refine gc_cond rfl (fun hc13 => ?_) (fun hc13 => ?_)
                · try simp only [decide_eq_true_eq, decide_eq_false_iff_not, Bool.not_eq_true', Bool.not_eq_false', Bool.not_eq_eq_eq_not, Bool.not_true, Bool.not_false, ne_eq, Decidable.not_not, Classical.not_not] at hc13
                  first | (exfalso; omega) | exact absurd rfl hc13 | (simp at hc13)
                · try simp only [decide_eq_true_eq, decide_eq_false_iff_not, Bool.not_eq_true', Bool.not_eq_false', Bool.not_eq_eq_eq_not, Bool.not_true, Bool.not_false, ne_eq, Decidable.not_not, Classical.not_not] at hc13
                  refine gc_skip ?_
                  refine gk_then (hK191 _ _ ?_)
                  refine gc_seq fun K193 hK193 => ?_
                  try simp only [List.nil_append, List.cons_append, List.append_assoc, List.set_cons_succ, List.set_cons_zero]
                  refine ga_start _ (fun w M => M) ?_
                  refine ga_v 0 rfl (by kernel_rfl) (by kernel_rfl) (by kernel_rfl) (.free rfl) rfl rfl (qt_loadS (n := 0) rfl rfl Try.underlying27 rfl (by kernel_rfl) rfl) (fun _ _ _ h => h) ?_
                  refine ga_v 2 rfl (by kernel_rfl) (by kernel_rfl) (by kernel_rfl) (.free rfl) rfl rfl (qt_loadS (n := 1) rfl rfl Try.underlying27 rfl (by kernel_rfl) rfl) (fun _ _ _ h => h) ?_
                  refine ga_two 1 8 (by kernel_rfl) rfl rfl (.free rfl) (.free rfl) (fun K194 hK194 => ?_) (fun K194 hK194 => ?_)
                  · refine go_callFn1 rfl rfl rfl Try.func22 rfl (by decide) rfl (fun w M => toF_any w _ _ (mem_rdF M R0)) ?_
                    intro fx1_195 fk1_195 fx2_195 fk2_195 fx3_195 fk3_195 fx4_195 fk4_195 fx5_195 fk5_195 fx6_195 fk6_195 fx7_195 fk7_195 fx8_195 fk8_195 fx9_195 fk9_195 fx10_195 fk10_195
                    refine hK194 _ _ (fun w M => (mem_take 14 M :)) ?_
                    refine ga_two 3 8 (by kernel_rfl) rfl rfl (.free rfl) (.free rfl) (fun K197 hK197 => ?_) (fun K197 hK197 => ?_)
                    · refine go_callFn1 rfl rfl rfl Try.func22 rfl (by decide) rfl (fun w M => toF_any w _ _ (mem_rdF M R1)) ?_
                      intro fx1_198 fk1_198 fx2_198 fk2_198 fx3_198 fk3_198 fx4_198 fk4_198 fx5_198 fk5_198 fx6_198 fk6_198 fx7_198 fk7_198 fx8_198 fk8_198 fx9_198 fk9_198 fx10_198 fk10_198
                      refine hK197 _ _ (fun w M => (mem_take 14 M :)) ?_
                      refine ga_two 4 8 (by kernel_rfl) rfl rfl (.free rfl) (.free rfl) (fun K200 hK200 => ?_) (fun K200 hK200 => ?_)
                      · refine go_callFI1 rfl rfl rfl Try.func41 rfl (by decide) rfl (fun w M => himpl w _ _ ((mem_ownF (n := 14) M rfl).rd) ((mem_ownF (n := 15) M rfl).rd)) ?_
                        intro fx1_201 fk1_201 fx2_201 fk2_201 fx3_201 fk3_201 fx4_201 fk4_201 fx5_201 fk5_201 fx6_201 fk6_201 fx7_201 fk7_201 fx8_201 fk8_201 fx9_201 fk9_201 fx10_201 fk10_201
                        refine hK200 _ _ (fun w M => (mem_take 14 M :)) ?_
                        refine ga_v 5 rfl (by kernel_rfl) (by kernel_rfl) (by kernel_rfl) (.free rfl) rfl rfl (qt_move rfl rfl) (fun _ _ _ h => h) ?_
                        refine ga_v 6 rfl (by kernel_rfl) (by kernel_rfl) (by kernel_rfl) (.free rfl) rfl rfl (qt_extract rfl rfl rfl) (fun _ _ _ h => h) ?_
                        refine ga_v 7 rfl (by kernel_rfl) (by kernel_rfl) (by kernel_rfl) (.free rfl) rfl rfl (qt_extract rfl rfl rfl) (fun _ _ _ h => h) ?_
                        refine ga_op 8 (by kernel_rfl) rfl (.free rfl) fun K204 hK204 => ?_
                        refine go_alloc (z := (.agg #[.int .i64 0, .slice none 0 0, .slice none 0 0, .slice none 0 0, .slice none 0 0, .int .i64 0, .slice none 0 0, .slice none 0 0, .slice none 0 0, .slice none 0 0, .slice none 0 0, .slice none 0 0])) (cs := [.int .i64 0, .slice none 0 0, .slice none 0 0, .slice none 0 0, .slice none 0 0, .int .i64 0, .slice none 0 0, .slice none 0 0, .slice none 0 0, .slice none 0 0, .slice none 0 0, .slice none 0 0]) rfl rfl rfl (fun w => by kernel_rfl) rfl ?_
                        intro B203
                        refine hK204 _ _ (fun w M => (mem_take 14 M :)) ?_
                        refine ga_op 9 (by kernel_rfl) rfl (.free rfl) fun K205 hK205 => ?_
                        refine go_storeS (n := 17) rfl rfl rfl rfl (by kernel_rfl) rfl rfl rfl ?_
                        refine hK205 _ _ (fun w M => (mem_take 14 M :)) ?_
                        refine ga_v 10 rfl (by kernel_rfl) (by kernel_rfl) (by kernel_rfl) (.free rfl) rfl rfl (qt_assign rfl rfl) (fun _ _ _ h => h) ?_
                        refine ga_done (by kernel_rfl) ?_
                        refine gk_then (hK193 _ _ ?_)
                        refine gc_seq fun K206 hK206 => ?_
                        refine gc_seq fun K207 hK207 => ?_
                        refine gc_region ?_
                        refine g_v (.free rfl) rfl rfl (qt_loadS (n := 17) rfl rfl Try.underlying34 rfl (by kernel_rfl) rfl) ?_
                        refine g_v (.free rfl) rfl rfl (qt_loadS (n := 4) rfl rfl Try.underlying34 rfl (by kernel_rfl) rfl) ?_
                        refine g_q (.free rfl) rfl rfl (qt_call rfl Try.func24 rfl (by decide) rfl (fun w M => eqF_refl_any w _ _ _ ((mem_ownF (n := 16) M rfl).rd) ((mem_ownF (n := 5) M rfl).rd))) ?_
                        refine g_v (.free rfl) rfl rfl (qt_not rfl rfl) ?_
                        refine g_v (.free rfl) rfl rfl (qt_move rfl rfl) ?_
                        refine g_v (.held _ _ _ rfl rfl rfl) rfl rfl (qt_move rfl rfl) ?_
                        refine g_v (.held _ _ _ rfl rfl rfl) rfl rfl (qt_move rfl rfl) ?_
                        refine g_v (.held _ _ _ rfl rfl rfl) rfl rfl (qt_neq_f rfl rfl rfl (fun h => h rfl)) ?_
                        refine g_v (.free rfl) rfl rfl (qt_pick_f rfl rfl rfl) ?_
                        refine g_nil ?_
                        refine gk_then (hK207 _ _ ?_)
                        refine gc_cond_f rfl ?_
                        refine gc_skip ?_
                        refine gk_then (hK206 _ _ ?_)
                        refine gc_seq fun K208 hK208 => ?_
                        refine gc_region ?_
                        refine g_v (.free rfl) rfl rfl (qt_assign rfl rfl) ?_
                        refine g_nil ?_
                        refine gk_then (hK208 _ _ ?_)
                        refine gc_seq fun K209 hK209 => ?_
                        refine gc_region ?_
                        refine g_v (.free rfl) rfl rfl (qt_loadS (n := 11) rfl rfl Try.underlying34 rfl (by kernel_rfl) rfl) ?_
                        refine g_v (.free rfl) rfl rfl (qt_move rfl rfl) ?_
                        refine g_q (.free rfl) rfl rfl (qt_call rfl Try.func42 rfl (by decide) rfl (fun w M => heldF_any w _ _ _ ((mem_ownF (n := 10) M rfl).rd) (by first | assumption | omega) (by first | assumption | omega))) ?_
                        refine g_v (.free rfl) rfl rfl (qt_assign rfl rfl) ?_
                        refine g_nil ?_
                        refine gk_then (hK209 _ _ ?_)
                        refine gc_seq fun K210 hK210 => ?_
                        refine gc_seq fun K211 hK211 => ?_
                        refine gc_region ?_
                        refine g_v (.free rfl) rfl rfl (qt_move rfl rfl) ?_
                        refine g_v (.free rfl) rfl rfl (qt_lss rfl rfl rfl) ?_
                        refine g_nil ?_
                        refine gk_then (hK211 _ _ ?_)
                        refine gc_cond rfl (fun hc14 => ?_) (fun hc14 => ?_)
                        · try simp only [decide_eq_true_eq, decide_eq_false_iff_not, Bool.not_eq_true', Bool.not_eq_false', Bool.not_eq_eq_eq_not, Bool.not_true, Bool.not_false, ne_eq, Decidable.not_not, Classical.not_not] at hc14
                          first | (exfalso; omega) | exact absurd rfl hc14 | (simp at hc14)
                        · try simp only [decide_eq_true_eq, decide_eq_false_iff_not, Bool.not_eq_true', Bool.not_eq_false', Bool.not_eq_eq_eq_not, Bool.not_true, Bool.not_false, ne_eq, Decidable.not_not, Classical.not_not] at hc14
                          refine gc_skip ?_
                          refine gk_then (hK210 _ _ ?_)
                          refine gc_seq fun K212 hK212 => ?_
                          refine gc_seq fun K213 hK213 => ?_
                          refine gc_region ?_
                          refine g_v (.free rfl) rfl rfl (qt_move rfl rfl) ?_
                          refine g_v (.free rfl) rfl rfl (qt_move rfl rfl) ?_
                          refine g_v (.free rfl) rfl rfl (qt_neq rfl rfl rfl) ?_
                          refine g_nil ?_
                          refine gk_then (hK213 _ _ ?_)
                          refine gc_cond rfl (fun hc15 => ?_) (fun hc15 => ?_)
                          · try simp only [decide_eq_true_eq, decide_eq_false_iff_not, Bool.not_eq_true', Bool.not_eq_false', Bool.not_eq_eq_eq_not, Bool.not_true, Bool.not_false, ne_eq, Decidable.not_not, Classical.not_not] at hc15
                            first | (exfalso; omega) | exact absurd rfl hc15 | (simp at hc15)
                          · try simp only [decide_eq_true_eq, decide_eq_false_iff_not, Bool.not_eq_true', Bool.not_eq_false', Bool.not_eq_eq_eq_not, Bool.not_true, Bool.not_false, ne_eq, Decidable.not_not, Classical.not_not] at hc15
                            refine gc_skip ?_
                            refine gk_then (hK212 _ _ ?_)
                            refine gc_seq fun K214 hK214 => ?_
                            refine gc_region ?_
                            refine g_v (.free rfl) rfl rfl (qt_assign rfl rfl) ?_
                            refine g_nil ?_
                            refine gk_then (hK214 _ _ ?_)
                            refine gc_ret ?_
                            refine ret_1 rfl rfl  (fun w M => ?_)
                            exact ⟨rfl, M.1⟩
                      · refine go_alloc (z := (.agg #[.int .i64 0, .slice none 0 0, .slice none 0 0, .slice none 0 0, .slice none 0 0, .int .i64 0, .slice none 0 0, .slice none 0 0, .slice none 0 0, .slice none 0 0, .slice none 0 0, .slice none 0 0])) (cs := [.int .i64 0, .slice none 0 0, .slice none 0 0, .slice none 0 0, .slice none 0 0, .int .i64 0, .slice none 0 0, .slice none 0 0, .slice none 0 0, .slice none 0 0, .slice none 0 0, .slice none 0 0]) rfl rfl rfl (fun w => by kernel_rfl) rfl ?_
                        intro B215
                        refine hK200 _ _ (fun w M => (mem_take 14 M :)) ?_
                        refine ga_op 4 (by kernel_rfl) rfl (.free rfl) fun K218 hK218 => ?_
                        refine go_callFI1 rfl rfl rfl Try.func41 rfl (by decide) rfl (fun w M => himpl w _ _ ((mem_ownF (n := 14) M rfl).rd) ((mem_ownF (n := 15) M rfl).rd)) ?_
                        intro fx1_217 fk1_217 fx2_217 fk2_217 fx3_217 fk3_217 fx4_217 fk4_217 fx5_217 fk5_217 fx6_217 fk6_217 fx7_217 fk7_217 fx8_217 fk8_217 fx9_217 fk9_217 fx10_217 fk10_217
                        refine hK218 _ _ (fun w M => (mem_take 14 M :)) ?_
                        refine ga_v 5 rfl (by kernel_rfl) (by kernel_rfl) (by kernel_rfl) (.free rfl) rfl rfl (qt_move rfl rfl) (fun _ _ _ h => h) ?_
                        refine ga_v 6 rfl (by kernel_rfl) (by kernel_rfl) (by kernel_rfl) (.free rfl) rfl rfl (qt_extract rfl rfl rfl) (fun _ _ _ h => h) ?_
                        refine ga_v 7 rfl (by kernel_rfl) (by kernel_rfl) (by kernel_rfl) (.free rfl) rfl rfl (qt_extract rfl rfl rfl) (fun _ _ _ h => h) ?_
                        refine ga_op 9 (by kernel_rfl) rfl (.free rfl) fun K219 hK219 => ?_
                        refine go_storeS (n := 16) rfl rfl rfl rfl (by kernel_rfl) rfl rfl rfl ?_
                        refine hK219 _ _ (fun w M => (mem_take 14 M :)) ?_
                        refine ga_v 10 rfl (by kernel_rfl) (by kernel_rfl) (by kernel_rfl) (.free rfl) rfl rfl (qt_assign rfl rfl) (fun _ _ _ h => h) ?_
                        refine ga_done (by kernel_rfl) ?_
                        refine gk_then (hK193 _ _ ?_)
                        refine gc_seq fun K220 hK220 => ?_
                        refine gc_seq fun K221 hK221 => ?_
                        refine gc_region ?_
                        refine g_v (.free rfl) rfl rfl (qt_loadS (n := 16) rfl rfl Try.underlying34 rfl (by kernel_rfl) rfl) ?_
                        refine g_v (.free rfl) rfl rfl (qt_loadS (n := 4) rfl rfl Try.underlying34 rfl (by kernel_rfl) rfl) ?_
                        refine g_q (.free rfl) rfl rfl (qt_call rfl Try.func24 rfl (by decide) rfl (fun w M => eqF_refl_any w _ _ _ ((mem_ownF (n := 17) M rfl).rd) ((mem_ownF (n := 5) M rfl).rd))) ?_
                        refine g_v (.free rfl) rfl rfl (qt_not rfl rfl) ?_
                        refine g_v (.free rfl) rfl rfl (qt_move rfl rfl) ?_
                        refine g_v (.held _ _ _ rfl rfl rfl) rfl rfl (qt_move rfl rfl) ?_
                        refine g_v (.held _ _ _ rfl rfl rfl) rfl rfl (qt_move rfl rfl) ?_
                        refine g_v (.held _ _ _ rfl rfl rfl) rfl rfl (qt_neq_f rfl rfl rfl (fun h => h rfl)) ?_
                        refine g_v (.free rfl) rfl rfl (qt_pick_f rfl rfl rfl) ?_
                        refine g_nil ?_
                        refine gk_then (hK221 _ _ ?_)
                        refine gc_cond_f rfl ?_
                        refine gc_skip ?_
                        refine gk_then (hK220 _ _ ?_)
                        refine gc_seq fun K222 hK222 => ?_
                        refine gc_region ?_
                        refine g_v (.free rfl) rfl rfl (qt_assign rfl rfl) ?_
                        refine g_nil ?_
                        refine gk_then (hK222 _ _ ?_)
                        refine gc_seq fun K223 hK223 => ?_
                        refine gc_region ?_
                        refine g_v (.free rfl) rfl rfl (qt_loadS (n := 11) rfl rfl Try.underlying34 rfl (by kernel_rfl) rfl) ?_
                        refine g_v (.free rfl) rfl rfl (qt_move rfl rfl) ?_
                        refine g_q (.free rfl) rfl rfl (qt_call rfl Try.func42 rfl (by decide) rfl (fun w M => heldF_any w _ _ _ ((mem_ownF (n := 10) M rfl).rd) (by first | assumption | omega) (by first | assumption | omega))) ?_
                        refine g_v (.free rfl) rfl rfl (qt_assign rfl rfl) ?_
                        refine g_nil ?_
                        refine gk_then (hK223 _ _ ?_)
                        refine gc_seq fun K224 hK224 => ?_
                        refine gc_seq fun K225 hK225 => ?_
                        refine gc_region ?_
                        refine g_v (.free rfl) rfl rfl (qt_move rfl rfl) ?_
                        refine g_v (.free rfl) rfl rfl (qt_lss rfl rfl rfl) ?_
                        refine g_nil ?_
                        refine gk_then (hK225 _ _ ?_)
                        refine gc_cond rfl (fun hc16 => ?_) (fun hc16 => ?_)
                        · try simp only [decide_eq_true_eq, decide_eq_false_iff_not, Bool.not_eq_true', Bool.not_eq_false', Bool.not_eq_eq_eq_not, Bool.not_true, Bool.not_false, ne_eq, Decidable.not_not, Classical.not_not] at hc16
                          first | (exfalso; omega) | exact absurd rfl hc16 | (simp at hc16)
                        · try simp only [decide_eq_true_eq, decide_eq_false_iff_not, Bool.not_eq_true', Bool.not_eq_false', Bool.not_eq_eq_eq_not, Bool.not_true, Bool.not_false, ne_eq, Decidable.not_not, Classical.not_not] at hc16
                          refine gc_skip ?_
                          refine gk_then (hK224 _ _ ?_)
                          refine gc_seq fun K226 hK226 => ?_
                          refine gc_seq fun K227 hK227 => ?_
                          refine gc_region ?_
                          refine g_v (.free rfl) rfl rfl (qt_move rfl rfl) ?_
                          refine g_v (.free rfl) rfl rfl (qt_move rfl rfl) ?_
                          refine g_v (.free rfl) rfl rfl (qt_neq rfl rfl rfl) ?_
                          refine g_nil ?_
                          refine gk_then (hK227 _ _ ?_)
                          refine gc_cond rfl (fun hc17 => ?_) (fun hc17 => ?_)
                          · try simp only [decide_eq_true_eq, decide_eq_false_iff_not, Bool.not_eq_true', Bool.not_eq_false', Bool.not_eq_eq_eq_not, Bool.not_true, Bool.not_false, ne_eq, Decidable.not_not, Classical.not_not] at hc17
                            first | (exfalso; omega) | exact absurd rfl hc17 | (simp at hc17)
                          · try simp only [decide_eq_true_eq, decide_eq_false_iff_not, Bool.not_eq_true', Bool.not_eq_false', Bool.not_eq_eq_eq_not, Bool.not_true, Bool.not_false, ne_eq, Decidable.not_not, Classical.not_not] at hc17
                            refine gc_skip ?_
                            refine gk_then (hK226 _ _ ?_)
                            refine gc_seq fun K228 hK228 => ?_
                            refine gc_region ?_
                            refine g_v (.free rfl) rfl rfl (qt_assign rfl rfl) ?_
                            refine g_nil ?_
                            refine gk_then (hK228 _ _ ?_)
                            refine gc_ret ?_
                            refine ret_1 rfl rfl  (fun w M => ?_)
                            exact ⟨rfl, M.1⟩
                    · refine go_alloc (z := (.agg #[.int .i64 0, .slice none 0 0, .slice none 0 0, .slice none 0 0, .slice none 0 0, .int .i64 0, .slice none 0 0, .slice none 0 0, .slice none 0 0, .slice none 0 0, .slice none 0 0, .slice none 0 0])) (cs := [.int .i64 0, .slice none 0 0, .slice none 0 0, .slice none 0 0, .slice none 0 0, .int .i64 0, .slice none 0 0, .slice none 0 0, .slice none 0 0, .slice none 0 0, .slice none 0 0, .slice none 0 0]) rfl rfl rfl (fun w => by kernel_rfl) rfl ?_
                      intro B229
                      refine hK197 _ _ (fun w M => (mem_take 14 M :)) ?_
                      refine ga_op 3 (by kernel_rfl) rfl (.free rfl) fun K232 hK232 => ?_
                      refine go_callFn1 rfl rfl rfl Try.func22 rfl (by decide) rfl (fun w M => toF_any w _ _ (mem_rdF M R1)) ?_
                      intro fx1_231 fk1_231 fx2_231 fk2_231 fx3_231 fk3_231 fx4_231 fk4_231 fx5_231 fk5_231 fx6_231 fk6_231 fx7_231 fk7_231 fx8_231 fk8_231 fx9_231 fk9_231 fx10_231 fk10_231
                      refine hK232 _ _ (fun w M => (mem_take 14 M :)) ?_
                      refine ga_op 4 (by kernel_rfl) rfl (.free rfl) fun K234 hK234 => ?_
                      refine go_callFI1 rfl rfl rfl Try.func41 rfl (by decide) rfl (fun w M => himpl w _ _ ((mem_ownF (n := 14) M rfl).rd) ((mem_ownF (n := 16) M rfl).rd)) ?_
                      intro fx1_233 fk1_233 fx2_233 fk2_233 fx3_233 fk3_233 fx4_233 fk4_233 fx5_233 fk5_233 fx6_233 fk6_233 fx7_233 fk7_233 fx8_233 fk8_233 fx9_233 fk9_233 fx10_233 fk10_233
                      refine hK234 _ _ (fun w M => (mem_take 14 M :)) ?_
                      refine ga_v 5 rfl (by kernel_rfl) (by kernel_rfl) (by kernel_rfl) (.free rfl) rfl rfl (qt_move rfl rfl) (fun _ _ _ h => h) ?_
                      refine ga_v 6 rfl (by kernel_rfl) (by kernel_rfl) (by kernel_rfl) (.free rfl) rfl rfl (qt_extract rfl rfl rfl) (fun _ _ _ h => h) ?_
                      refine ga_v 7 rfl (by kernel_rfl) (by kernel_rfl) (by kernel_rfl) (.free rfl) rfl rfl (qt_extract rfl rfl rfl) (fun _ _ _ h => h) ?_
                      refine ga_op 9 (by kernel_rfl) rfl (.free rfl) fun K235 hK235 => ?_
                      refine go_storeS (n := 15) rfl rfl rfl rfl (by kernel_rfl) rfl rfl rfl ?_
                      refine hK235 _ _ (fun w M => (mem_take 14 M :)) ?_
                      refine ga_v 10 rfl (by kernel_rfl) (by kernel_rfl) (by kernel_rfl) (.free rfl) rfl rfl (qt_assign rfl rfl) (fun _ _ _ h => h) ?_
                      refine ga_done (by kernel_rfl) ?_
                      refine gk_then (hK193 _ _ ?_)
                      refine gc_seq fun K236 hK236 => ?_
                      refine gc_seq fun K237 hK237 => ?_
                      refine gc_region ?_
                      refine g_v (.free rfl) rfl rfl (qt_loadS (n := 15) rfl rfl Try.underlying34 rfl (by kernel_rfl) rfl) ?_
                      refine g_v (.free rfl) rfl rfl (qt_loadS (n := 4) rfl rfl Try.underlying34 rfl (by kernel_rfl) rfl) ?_
                      refine g_q (.free rfl) rfl rfl (qt_call rfl Try.func24 rfl (by decide) rfl (fun w M => eqF_refl_any w _ _ _ ((mem_ownF (n := 17) M rfl).rd) ((mem_ownF (n := 5) M rfl).rd))) ?_
                      refine g_v (.free rfl) rfl rfl (qt_not rfl rfl) ?_
                      refine g_v (.free rfl) rfl rfl (qt_move rfl rfl) ?_
                      refine g_v (.held _ _ _ rfl rfl rfl) rfl rfl (qt_move rfl rfl) ?_
                      refine g_v (.held _ _ _ rfl rfl rfl) rfl rfl (qt_move rfl rfl) ?_
                      refine g_v (.held _ _ _ rfl rfl rfl) rfl rfl (qt_neq_f rfl rfl rfl (fun h => h rfl)) ?_
                      refine g_v (.free rfl) rfl rfl (qt_pick_f rfl rfl rfl) ?_
                      refine g_nil ?_
                      refine gk_then (hK237 _ _ ?_)
                      refine gc_cond_f rfl ?_
                      refine gc_skip ?_
                      refine gk_then (hK236 _ _ ?_)
                      refine gc_seq fun K238 hK238 => ?_
                      refine gc_region ?_
                      refine g_v (.free rfl) rfl rfl (qt_assign rfl rfl) ?_
                      refine g_nil ?_
                      refine gk_then (hK238 _ _ ?_)
                      refine gc_seq fun K239 hK239 => ?_
                      refine gc_region ?_
                      refine g_v (.free rfl) rfl rfl (qt_loadS (n := 11) rfl rfl Try.underlying34 rfl (by kernel_rfl) rfl) ?_
                      refine g_v (.free rfl) rfl rfl (qt_move rfl rfl) ?_
                      refine g_q (.free rfl) rfl rfl (qt_call rfl Try.func42 rfl (by decide) rfl (fun w M => heldF_any w _ _ _ ((mem_ownF (n := 10) M rfl).rd) (by first | assumption | omega) (by first | assumption | omega))) ?_
                      refine g_v (.free rfl) rfl rfl (qt_assign rfl rfl) ?_
                      refine g_nil ?_
                      refine gk_then (hK239 _ _ ?_)
                      refine gc_seq fun K240 hK240 => ?_
                      refine gc_seq fun K241 hK241 => ?_
                      refine gc_region ?_
                      refine g_v (.free rfl) rfl rfl (qt_move rfl rfl) ?_
                      refine g_v (.free rfl) rfl rfl (qt_lss rfl rfl rfl) ?_
                      refine g_nil ?_
                      refine gk_then (hK241 _ _ ?_)
                      refine gc_cond rfl (fun hc18 => ?_) (fun hc18 => ?_)
                      · try simp only [decide_eq_true_eq, decide_eq_false_iff_not, Bool.not_eq_true', Bool.not_eq_false', Bool.not_eq_eq_eq_not, Bool.not_true, Bool.not_false, ne_eq, Decidable.not_not, Classical.not_not] at hc18
                        first | (exfalso; omega) | exact absurd rfl hc18 | (simp at hc18)
                      · try simp only [decide_eq_true_eq, decide_eq_false_iff_not, Bool.not_eq_true', Bool.not_eq_false', Bool.not_eq_eq_eq_not, Bool.not_true, Bool.not_false, ne_eq, Decidable.not_not, Classical.not_not] at hc18
                        refine gc_skip ?_
                        refine gk_then (hK240 _ _ ?_)
                        refine gc_seq fun K242 hK242 => ?_
                        refine gc_seq fun K243 hK243 => ?_
                        refine gc_region ?_
                        refine g_v (.free rfl) rfl rfl (qt_move rfl rfl) ?_
                        refine g_v (.free rfl) rfl rfl (qt_move rfl rfl) ?_
                        refine g_v (.free rfl) rfl rfl (qt_neq rfl rfl rfl) ?_
                        refine g_nil ?_
                        refine gk_then (hK243 _ _ ?_)
                        refine gc_cond rfl (fun hc19 => ?_) (fun hc19 => ?_)
                        · try simp only [decide_eq_true_eq, decide_eq_false_iff_not, Bool.not_eq_true', Bool.not_eq_false', Bool.not_eq_eq_eq_not, Bool.not_true, Bool.not_false, ne_eq, Decidable.not_not, Classical.not_not] at hc19
                          first | (exfalso; omega) | exact absurd rfl hc19 | (simp at hc19)
                        · try simp only [decide_eq_true_eq, decide_eq_false_iff_not, Bool.not_eq_true', Bool.not_eq_false', Bool.not_eq_eq_eq_not, Bool.not_true, Bool.not_false, ne_eq, Decidable.not_not, Classical.not_not] at hc19
                          refine gc_skip ?_
                          refine gk_then (hK242 _ _ ?_)
                          refine gc_seq fun K244 hK244 => ?_
                          refine gc_region ?_
                          refine g_v (.free rfl) rfl rfl (qt_assign rfl rfl) ?_
                          refine g_nil ?_
                          refine gk_then (hK244 _ _ ?_)
                          refine gc_ret ?_
                          refine ret_1 rfl rfl  (fun w M => ?_)
                          exact ⟨rfl, M.1⟩
                  · refine go_alloc (z := (.agg #[.int .i64 0, .slice none 0 0, .slice none 0 0, .slice none 0 0, .slice none 0 0, .int .i64 0, .slice none 0 0, .slice none 0 0, .slice none 0 0, .slice none 0 0, .slice none 0 0, .slice none 0 0])) (cs := [.int .i64 0, .slice none 0 0, .slice none 0 0, .slice none 0 0, .slice none 0 0, .int .i64 0, .slice none 0 0, .slice none 0 0, .slice none 0 0, .slice none 0 0, .slice none 0 0, .slice none 0 0]) rfl rfl rfl (fun w => by kernel_rfl) rfl ?_
                    intro B245
                    refine hK194 _ _ (fun w M => (mem_take 14 M :)) ?_
                    refine ga_op 1 (by kernel_rfl) rfl (.free rfl) fun K248 hK248 => ?_
                    refine go_callFn1 rfl rfl rfl Try.func22 rfl (by decide) rfl (fun w M => toF_any w _ _ (mem_rdF M R0)) ?_
                    intro fx1_247 fk1_247 fx2_247 fk2_247 fx3_247 fk3_247 fx4_247 fk4_247 fx5_247 fk5_247 fx6_247 fk6_247 fx7_247 fk7_247 fx8_247 fk8_247 fx9_247 fk9_247 fx10_247 fk10_247
                    refine hK248 _ _ (fun w M => (mem_take 14 M :)) ?_
                    refine ga_op 3 (by kernel_rfl) rfl (.free rfl) fun K250 hK250 => ?_
                    refine go_callFn1 rfl rfl rfl Try.func22 rfl (by decide) rfl (fun w M => toF_any w _ _ (mem_rdF M R1)) ?_
                    intro fx1_249 fk1_249 fx2_249 fk2_249 fx3_249 fk3_249 fx4_249 fk4_249 fx5_249 fk5_249 fx6_249 fk6_249 fx7_249 fk7_249 fx8_249 fk8_249 fx9_249 fk9_249 fx10_249 fk10_249
                    refine hK250 _ _ (fun w M => (mem_take 14 M :)) ?_
                    refine ga_op 4 (by kernel_rfl) rfl (.free rfl) fun K252 hK252 => ?_
                    refine go_callFI1 rfl rfl rfl Try.func41 rfl (by decide) rfl (fun w M => himpl w _ _ ((mem_ownF (n := 15) M rfl).rd) ((mem_ownF (n := 16) M rfl).rd)) ?_
                    intro fx1_251 fk1_251 fx2_251 fk2_251 fx3_251 fk3_251 fx4_251 fk4_251 fx5_251 fk5_251 fx6_251 fk6_251 fx7_251 fk7_251 fx8_251 fk8_251 fx9_251 fk9_251 fx10_251 fk10_251
                    refine hK252 _ _ (fun w M => (mem_take 14 M :)) ?_
                    refine ga_v 5 rfl (by kernel_rfl) (by kernel_rfl) (by kernel_rfl) (.free rfl) rfl rfl (qt_move rfl rfl) (fun _ _ _ h => h) ?_
                    refine ga_v 6 rfl (by kernel_rfl) (by kernel_rfl) (by kernel_rfl) (.free rfl) rfl rfl (qt_extract rfl rfl rfl) (fun _ _ _ h => h) ?_
                    refine ga_v 7 rfl (by kernel_rfl) (by kernel_rfl) (by kernel_rfl) (.free rfl) rfl rfl (qt_extract rfl rfl rfl) (fun _ _ _ h => h) ?_
                    refine ga_op 9 (by kernel_rfl) rfl (.free rfl) fun K253 hK253 => ?_
                    refine go_storeS (n := 14) rfl rfl rfl rfl (by kernel_rfl) rfl rfl rfl ?_
                    refine hK253 _ _ (fun w M => (mem_take 14 M :)) ?_
                    refine ga_v 10 rfl (by kernel_rfl) (by kernel_rfl) (by kernel_rfl) (.free rfl) rfl rfl (qt_assign rfl rfl) (fun _ _ _ h => h) ?_
                    refine ga_done (by kernel_rfl) ?_
                    refine gk_then (hK193 _ _ ?_)
                    refine gc_seq fun K254 hK254 => ?_
                    refine gc_seq fun K255 hK255 => ?_
                    refine gc_region ?_
                    refine g_v (.free rfl) rfl rfl (qt_loadS (n := 14) rfl rfl Try.underlying34 rfl (by kernel_rfl) rfl) ?_
                    refine g_v (.free rfl) rfl rfl (qt_loadS (n := 4) rfl rfl Try.underlying34 rfl (by kernel_rfl) rfl) ?_
                    refine g_q (.free rfl) rfl rfl (qt_call rfl Try.func24 rfl (by decide) rfl (fun w M => eqF_refl_any w _ _ _ ((mem_ownF (n := 17) M rfl).rd) ((mem_ownF (n := 5) M rfl).rd))) ?_
                    refine g_v (.free rfl) rfl rfl (qt_not rfl rfl) ?_
                    refine g_v (.free rfl) rfl rfl (qt_move rfl rfl) ?_
                    refine g_v (.held _ _ _ rfl rfl rfl) rfl rfl (qt_move rfl rfl) ?_
                    refine g_v (.held _ _ _ rfl rfl rfl) rfl rfl (qt_move rfl rfl) ?_
                    refine g_v (.held _ _ _ rfl rfl rfl) rfl rfl (qt_neq_f rfl rfl rfl (fun h => h rfl)) ?_
                    refine g_v (.free rfl) rfl rfl (qt_pick_f rfl rfl rfl) ?_
                    refine g_nil ?_
                    refine gk_then (hK255 _ _ ?_)
                    refine gc_cond_f rfl ?_
                    refine gc_skip ?_
                    refine gk_then (hK254 _ _ ?_)
                    refine gc_seq fun K256 hK256 => ?_
                    refine gc_region ?_
                    refine g_v (.free rfl) rfl rfl (qt_assign rfl rfl) ?_
                    refine g_nil ?_
                    refine gk_then (hK256 _ _ ?_)
                    refine gc_seq fun K257 hK257 => ?_
                    refine gc_region ?_
                    refine g_v (.free rfl) rfl rfl (qt_loadS (n := 11) rfl rfl Try.underlying34 rfl (by kernel_rfl) rfl) ?_
                    refine g_v (.free rfl) rfl rfl (qt_move rfl rfl) ?_
                    refine g_q (.free rfl) rfl rfl (qt_call rfl Try.func42 rfl (by decide) rfl (fun w M => heldF_any w _ _ _ ((mem_ownF (n := 10) M rfl).rd) (by first | assumption | omega) (by first | assumption | omega))) ?_
                    refine g_v (.free rfl) rfl rfl (qt_assign rfl rfl) ?_
                    refine g_nil ?_
                    refine gk_then (hK257 _ _ ?_)
                    refine gc_seq fun K258 hK258 => ?_
                    refine gc_seq fun K259 hK259 => ?_
                    refine gc_region ?_
                    refine g_v (.free rfl) rfl rfl (qt_move rfl rfl) ?_
                    refine g_v (.free rfl) rfl rfl (qt_lss rfl rfl rfl) ?_
                    refine g_nil ?_
                    refine gk_then (hK259 _ _ ?_)
                    refine gc_cond rfl (fun hc20 => ?_) (fun hc20 => ?_)
                    · try simp only [decide_eq_true_eq, decide_eq_false_iff_not, Bool.not_eq_true', Bool.not_eq_false', Bool.not_eq_eq_eq_not, Bool.not_true, Bool.not_false, ne_eq, Decidable.not_not, Classical.not_not] at hc20
                      first | (exfalso; omega) | exact absurd rfl hc20 | (simp at hc20)
                    · try simp only [decide_eq_true_eq, decide_eq_false_iff_not, Bool.not_eq_true', Bool.not_eq_false', Bool.not_eq_eq_eq_not, Bool.not_true, Bool.not_false, ne_eq, Decidable.not_not, Classical.not_not] at hc20
                      refine gc_skip ?_
                      refine gk_then (hK258 _ _ ?_)
                      refine gc_seq fun K260 hK260 => ?_
                      refine gc_seq fun K261 hK261 => ?_
                      refine gc_region ?_
                      refine g_v (.free rfl) rfl rfl (qt_move rfl rfl) ?_
                      refine g_v (.free rfl) rfl rfl (qt_move rfl rfl) ?_
                      refine g_v (.free rfl) rfl rfl (qt_neq rfl rfl rfl) ?_
                      refine g_nil ?_
                      refine gk_then (hK261 _ _ ?_)
                      refine gc_cond rfl (fun hc21 => ?_) (fun hc21 => ?_)
                      · try simp only [decide_eq_true_eq, decide_eq_false_iff_not, Bool.not_eq_true', Bool.not_eq_false', Bool.not_eq_eq_eq_not, Bool.not_true, Bool.not_false, ne_eq, Decidable.not_not, Classical.not_not] at hc21
                        first | (exfalso; omega) | exact absurd rfl hc21 | (simp at hc21)
                      · try simp only [decide_eq_true_eq, decide_eq_false_iff_not, Bool.not_eq_true', Bool.not_eq_false', Bool.not_eq_eq_eq_not, Bool.not_true, Bool.not_false, ne_eq, Decidable.not_not, Classical.not_not] at hc21
                        refine gc_skip ?_
                        refine gk_then (hK260 _ _ ?_)
                        refine gc_seq fun K262 hK262 => ?_
                        refine gc_region ?_
                        refine g_v (.free rfl) rfl rfl (qt_assign rfl rfl) ?_
                        refine g_nil ?_
                        refine gk_then (hK262 _ _ ?_)
                        refine gc_ret ?_
                        refine ret_1 rfl rfl  (fun w M => ?_)
                        exact ⟨rfl, M.1⟩
        · refine go_alloc (z := (.agg #[.int .i64 0, .slice none 0 0, .slice none 0 0, .slice none 0 0, .slice none 0 0, .int .i64 0, .slice none 0 0, .slice none 0 0, .slice none 0 0, .slice none 0 0, .slice none 0 0, .slice none 0 0])) (cs := [.int .i64 0, .slice none 0 0, .slice none 0 0, .slice none 0 0, .slice none 0 0, .int .i64 0, .slice none 0 0, .slice none 0 0, .slice none 0 0, .slice none 0 0, .slice none 0 0, .slice none 0 0]) rfl rfl rfl (fun w => by kernel_rfl) rfl ?_
          intro B263
          refine hK17 _ _ (fun w M => (mem_take 2 M :)) ?_
          refine ga_op 3 (by kernel_rfl) rfl (.free rfl) fun K266 hK266 => ?_
          refine go_callFn1 rfl rfl rfl Try.func22 rfl (by decide) rfl (fun w M => toF_any w _ _ (mem_rdF M R1)) ?_
          intro fx1_265 fk1_265 fx2_265 fk2_265 fx3_265 fk3_265 fx4_265 fk4_265 fx5_265 fk5_265 fx6_265 fk6_265 fx7_265 fk7_265 fx8_265 fk8_265 fx9_265 fk9_265 fx10_265 fk10_265
          refine hK266 _ _ (fun w M => (mem_take 2 M :)) ?_
          refine ga_op 4 (by kernel_rfl) rfl (.free rfl) fun K268 hK268 => ?_
          refine go_callFI1 rfl rfl rfl Try.func40 rfl (by decide) rfl (fun w M => hspec w _ _ ((mem_ownF (n := 2) M rfl).rd) ((mem_ownF (n := 4) M rfl).rd)) ?_
          intro fx1_267 fk1_267 fx2_267 fk2_267 fx3_267 fk3_267 fx4_267 fk4_267 fx5_267 fk5_267 fx6_267 fk6_267 fx7_267 fk7_267 fx8_267 fk8_267 fx9_267 fk9_267 fx10_267 fk10_267
          refine hK268 _ _ (fun w M => (mem_take 2 M :)) ?_
          refine ga_v 5 rfl (by kernel_rfl) (by kernel_rfl) (by kernel_rfl) (.free rfl) rfl rfl (qt_move rfl rfl) (fun _ _ _ h => h) ?_
          refine ga_v 6 rfl (by kernel_rfl) (by kernel_rfl) (by kernel_rfl) (.free rfl) rfl rfl (qt_extract rfl rfl rfl) (fun _ _ _ h => h) ?_
          refine ga_v 7 rfl (by kernel_rfl) (by kernel_rfl) (by kernel_rfl) (.free rfl) rfl rfl (qt_extract rfl rfl rfl) (fun _ _ _ h => h) ?_
          refine ga_op 9 (by kernel_rfl) rfl (.free rfl) fun K269 hK269 => ?_
          refine go_storeS (n := 3) rfl rfl rfl rfl (by kernel_rfl) rfl rfl rfl ?_
          refine hK269 _ _ (fun w M => (mem_take 2 M :)) ?_
          refine ga_v 10 rfl (by kernel_rfl) (by kernel_rfl) (by kernel_rfl) (.free rfl) rfl rfl (qt_assign rfl rfl) (fun _ _ _ h => h) ?_
          refine ga_done (by kernel_rfl) ?_
          refine gk_then (hK13 _ _ ?_)
          refine gc_seq fun K270 hK270 => ?_
          refine gc_region ?_
          refine g_v (.free rfl) rfl rfl (qt_loadS (n := 0) rfl rfl Try.underlying27 rfl (by kernel_rfl) rfl) ?_
          refine g_op (.free rfl) fun K272 hK272 => ?_
          refine go_callFn1 rfl rfl rfl Try.func22 rfl (by decide) rfl (fun w M => toF_any w _ _ (mem_rdF M R0)) ?_
          intro fx1_271 fk1_271 fx2_271 fk2_271 fx3_271 fk3_271 fx4_271 fk4_271 fx5_271 fk5_271 fx6_271 fk6_271 fx7_271 fk7_271 fx8_271 fk8_271 fx9_271 fk9_271 fx10_271 fk10_271
          refine hK272 _ _ ?_
          refine g_op (.free rfl) fun K274 hK274 => ?_
          refine go_alloc (z := (.agg #[.int .i64 0, .slice none 0 0, .slice none 0 0, .slice none 0 0, .slice none 0 0, .int .i64 0, .slice none 0 0, .slice none 0 0, .slice none 0 0, .slice none 0 0, .slice none 0 0, .slice none 0 0])) (cs := [.int .i64 0, .slice none 0 0, .slice none 0 0, .slice none 0 0, .slice none 0 0, .int .i64 0, .slice none 0 0, .slice none 0 0, .slice none 0 0, .slice none 0 0, .slice none 0 0, .slice none 0 0]) rfl rfl rfl (fun w => by kernel_rfl) rfl ?_
          intro B273
          refine hK274 _ _ ?_
          refine g_op (.free rfl) fun K275 hK275 => ?_
          refine go_storeS (n := 7) rfl rfl rfl rfl (by kernel_rfl) rfl rfl rfl ?_
          refine hK275 _ _ ?_
          refine g_nil ?_
          refine gk_then (hK270 _ _ ?_)
          refine gc_seq fun K276 hK276 => ?_
          refine gc_region ?_
          refine g_v (.free rfl) rfl rfl (qt_loadS (n := 1) rfl rfl Try.underlying27 rfl (by kernel_rfl) rfl) ?_
          refine g_op (.free rfl) fun K278 hK278 => ?_
          refine go_callFn1 rfl rfl rfl Try.func22 rfl (by decide) rfl (fun w M => toF_any w _ _ (mem_rdF M R1)) ?_
          intro fx1_277 fk1_277 fx2_277 fk2_277 fx3_277 fk3_277 fx4_277 fk4_277 fx5_277 fk5_277 fx6_277 fk6_277 fx7_277 fk7_277 fx8_277 fk8_277 fx9_277 fk9_277 fx10_277 fk10_277
          refine hK278 _ _ ?_
          refine g_op (.free rfl) fun K280 hK280 => ?_
          refine go_alloc (z := (.agg #[.int .i64 0, .slice none 0 0, .slice none 0 0, .slice none 0 0, .slice none 0 0, .int .i64 0, .slice none 0 0, .slice none 0 0, .slice none 0 0, .slice none 0 0, .slice none 0 0, .slice none 0 0])) (cs := [.int .i64 0, .slice none 0 0, .slice none 0 0, .slice none 0 0, .slice none 0 0, .int .i64 0, .slice none 0 0, .slice none 0 0, .slice none 0 0, .slice none 0 0, .slice none 0 0, .slice none 0 0]) rfl rfl rfl (fun w => by kernel_rfl) rfl ?_
          intro B279
          refine hK280 _ _ ?_
          refine g_op (.free rfl) fun K281 hK281 => ?_
          refine go_storeS (n := 9) rfl rfl rfl rfl (by kernel_rfl) rfl rfl rfl ?_
          refine hK281 _ _ ?_
          refine g_nil ?_
          refine gk_then (hK276 _ _ ?_)
          refine gc_seq fun K282 hK282 => ?_
          refine gc_region ?_
          refine g_v (.free rfl) rfl rfl (qt_loadS (n := 7) rfl rfl Try.underlying34 rfl (by kernel_rfl) rfl) ?_
          refine g_v (.free rfl) rfl rfl (qt_loadS (n := 9) rfl rfl Try.underlying34 rfl (by kernel_rfl) rfl) ?_
          refine g_op (.free rfl) fun K284 hK284 => ?_
          refine go_callFI1 rfl rfl rfl Try.func41 rfl (by decide) rfl (fun w M => himpl w _ _ ((mem_ownF (n := 6) M rfl).rd) ((mem_ownF (n := 8) M rfl).rd)) ?_
          intro fx1_283 fk1_283 fx2_283 fk2_283 fx3_283 fk3_283 fx4_283 fk4_283 fx5_283 fk5_283 fx6_283 fk6_283 fx7_283 fk7_283 fx8_283 fk8_283 fx9_283 fk9_283 fx10_283 fk10_283
          refine hK284 _ _ ?_
          refine g_v (.free rfl) rfl rfl (qt_move rfl rfl) ?_
          refine g_v (.free rfl) rfl rfl (qt_extract rfl rfl rfl) ?_
          refine g_v (.free rfl) rfl rfl (qt_extract rfl rfl rfl) ?_
          refine g_op (.free rfl) fun K286 hK286 => ?_
          refine go_alloc (z := (.agg #[.int .i64 0, .slice none 0 0, .slice none 0 0, .slice none 0 0, .slice none 0 0, .int .i64 0, .slice none 0 0, .slice none 0 0, .slice none 0 0, .slice none 0 0, .slice none 0 0, .slice none 0 0])) (cs := [.int .i64 0, .slice none 0 0, .slice none 0 0, .slice none 0 0, .slice none 0 0, .int .i64 0, .slice none 0 0, .slice none 0 0, .slice none 0 0, .slice none 0 0, .slice none 0 0, .slice none 0 0]) rfl rfl rfl (fun w => by kernel_rfl) rfl ?_
          intro B285
          refine hK286 _ _ ?_
          refine g_op (.free rfl) fun K287 hK287 => ?_
          refine go_storeS (n := 11) rfl rfl rfl rfl (by kernel_rfl) rfl rfl rfl ?_
          refine hK287 _ _ ?_
          refine g_v (.free rfl) rfl rfl (qt_assign rfl rfl) ?_
          refine g_nil ?_
          refine gk_then (hK282 _ _ ?_)
          refine gc_seq fun K288 hK288 => ?_
          refine gc_seq fun K289 hK289 => ?_
          refine gc_region ?_
          refine g_v (.free rfl) rfl rfl (qt_loadS (n := 11) rfl rfl Try.underlying34 rfl (by kernel_rfl) rfl) ?_
          refine g_v (.free rfl) rfl rfl (qt_loadS (n := 3) rfl rfl Try.underlying34 rfl (by kernel_rfl) rfl) ?_
          refine g_q (.free rfl) rfl rfl (qt_call rfl Try.func24 rfl (by decide) rfl (fun w M => eqF_refl_any w _ _ _ ((mem_ownF (n := 10) M rfl).rd) ((mem_ownF (n := 5) M rfl).rd))) ?_
          refine g_v (.free rfl) rfl rfl (qt_not rfl rfl) ?_
          refine g_v (.free rfl) rfl rfl (qt_move rfl rfl) ?_
          refine g_v (.held _ _ _ rfl rfl rfl) rfl rfl (qt_move rfl rfl) ?_
          refine g_v (.held _ _ _ rfl rfl rfl) rfl rfl (qt_move rfl rfl) ?_
          refine g_v (.held _ _ _ rfl rfl rfl) rfl rfl (qt_neq_f rfl rfl rfl (fun h => h rfl)) ?_
          refine g_v (.free rfl) rfl rfl (qt_pick_f rfl rfl rfl) ?_
          refine g_nil ?_
          refine gk_then (hK289 _ _ ?_)
          refine gc_cond_f rfl ?_
          refine gc_skip ?_
          refine gk_then (hK288 _ _ ?_)
          refine gc_seq fun K290 hK290 => ?_
          refine gc_seq fun K291 hK291 => ?_
          try simp only [List.nil_append, List.cons_append, List.append_assoc, List.set_cons_succ, List.set_cons_zero]
          refine ga_start _ (fun w M => M) ?_
          refine ga_v 0 rfl (by kernel_rfl) (by kernel_rfl) (by kernel_rfl) (.free rfl) rfl rfl (qt_loadS (n := 7) rfl rfl Try.underlying34 rfl (by kernel_rfl) rfl) (fun _ _ _ h => h) ?_
          refine ga_v 1 rfl (by kernel_rfl) (by kernel_rfl) (by kernel_rfl) (.free rfl) rfl rfl (qt_loadS (n := 0) rfl rfl Try.underlying27 rfl (by kernel_rfl) rfl) (fun _ _ _ h => h) ?_
          refine ga_op 2 (by kernel_rfl) rfl (.free rfl) fun K293 hK293 => ?_
          refine go_callFn1 rfl rfl rfl Try.func22 rfl (by decide) rfl (fun w M => toF_any w _ _ (mem_rdF M R0)) ?_
          intro fx1_292 fk1_292 fx2_292 fk2_292 fx3_292 fk3_292 fx4_292 fk4_292 fx5_292 fk5_292 fx6_292 fk6_292 fx7_292 fk7_292 fx8_292 fk8_292 fx9_292 fk9_292 fx10_292 fk10_292
          refine hK293 _ _ (fun w M => (mem_take 12 M :)) ?_
          refine ga_op 3 (by kernel_rfl) rfl (.free rfl) fun K294 hK294 => ?_
          refine go_q rfl rfl (qt_call rfl Try.func24 rfl (by decide) rfl (fun w M => eqF_refl_any w _ _ _ ((mem_ownF (n := 6) M rfl).rd) ((mem_ownF (n := 12) M rfl).rd))) ?_
          refine hK294 _ _ (fun w M => (mem_take 12 M :)) ?_
          refine ga_v 4 rfl (by kernel_rfl) (by kernel_rfl) (by kernel_rfl) (.free rfl) rfl rfl (qt_not rfl rfl) (fun _ _ _ h => h) ?_
          refine ga_done (by kernel_rfl) ?_
          refine gk_then (hK291 _ _ ?_)
          refine gc_cond_f rfl ?_
          refine gc_skip ?_
          refine gk_then (hK290 _ _ ?_)
          refine gc_seq fun K295 hK295 => ?_
          refine gc_seq fun K296 hK296 => ?_
          try simp only [List.nil_append, List.cons_append, List.append_assoc, List.set_cons_succ, List.set_cons_zero]
          refine ga_start _ (fun w M => M) ?_
          refine ga_v 0 rfl (by kernel_rfl) (by kernel_rfl) (by kernel_rfl) (.free rfl) rfl rfl (qt_loadS (n := 9) rfl rfl Try.underlying34 rfl (by kernel_rfl) rfl) (fun _ _ _ h => h) ?_
          refine ga_v 1 rfl (by kernel_rfl) (by kernel_rfl) (by kernel_rfl) (.free rfl) rfl rfl (qt_loadS (n := 1) rfl rfl Try.underlying27 rfl (by kernel_rfl) rfl) (fun _ _ _ h => h) ?_
          refine ga_op 2 (by kernel_rfl) rfl (.free rfl) fun K298 hK298 => ?_
          refine go_callFn1 rfl rfl rfl Try.func22 rfl (by decide) rfl (fun w M => toF_any w _ _ (mem_rdF M R1)) ?_
          intro fx1_297 fk1_297 fx2_297 fk2_297 fx3_297 fk3_297 fx4_297 fk4_297 fx5_297 fk5_297 fx6_297 fk6_297 fx7_297 fk7_297 fx8_297 fk8_297 fx9_297 fk9_297 fx10_297 fk10_297
          refine hK298 _ _ (fun w M => (mem_take 13 M :)) ?_
          refine ga_op 3 (by kernel_rfl) rfl (.free rfl) fun K299 hK299 => ?_
          refine go_q rfl rfl (qt_call rfl Try.func24 rfl (by decide) rfl (fun w M => eqF_refl_any w _ _ _ ((mem_ownF (n := 8) M rfl).rd) ((mem_ownF (n := 13) M rfl).rd))) ?_
          refine hK299 _ _ (fun w M => (mem_take 13 M :)) ?_
          refine ga_v 4 rfl (by kernel_rfl) (by kernel_rfl) (by kernel_rfl) (.free rfl) rfl rfl (qt_not rfl rfl) (fun _ _ _ h => h) ?_
          refine ga_done (by kernel_rfl) ?_
          refine gk_then (hK296 _ _ ?_)
          refine gc_cond_f rfl ?_
          refine gc_skip ?_
          refine gk_then (hK295 _ _ ?_)
          refine gc_seq fun K300 hK300 => ?_
          refine gc_region ?_
          refine g_v (.free rfl) rfl rfl (qt_assign rfl rfl) ?_
          refine g_nil ?_
          refine gk_then (hK300 _ _ ?_)
          refine gc_seq fun K301 hK301 => ?_
          refine gc_region ?_
          refine g_v (.free rfl) rfl rfl (qt_loadS (n := 7) rfl rfl Try.underlying34 rfl (by kernel_rfl) rfl) ?_
          refine g_v (.free rfl) rfl rfl (qt_move rfl rfl) ?_
          refine g_op (.free rfl) fun K302 hK302 => ?_
          refine go_one (n := 6) rfl rfl rfl Try.func25 rfl (by decide) rfl rfl (fun R w M => markF1_any _ w R _ _ _ _ _ _ _ _ _ _ _ _ (by omega) (by omega) M) ?_
          refine hK302 _ _ ?_
          refine g_v (.free rfl) rfl rfl (qt_assign rfl rfl) ?_
          refine g_nil ?_
          refine gk_then (hK301 _ _ ?_)
          refine gc_seq fun K303 hK303 => ?_
          refine gc_region ?_
          refine g_v (.free rfl) rfl rfl (qt_loadS (n := 9) rfl rfl Try.underlying34 rfl (by kernel_rfl) rfl) ?_
          refine g_v (.free rfl) rfl rfl (qt_move rfl rfl) ?_
          refine g_op (.free rfl) fun K304 hK304 => ?_
          refine go_one (n := 8) rfl rfl rfl Try.func25 rfl (by decide) rfl rfl (fun R w M => markF1_any _ w R _ _ _ _ _ _ _ _ _ _ _ _ (by omega) (by omega) M) ?_
          refine hK304 _ _ ?_
          refine g_v (.free rfl) rfl rfl (qt_assign rfl rfl) ?_
          refine g_nil ?_
          refine gk_then (hK303 _ _ ?_)
          refine gc_seq fun K305 hK305 => ?_
          refine gc_seq fun K306 hK306 => ?_
          refine gc_region ?_
          refine g_v (.free rfl) rfl rfl (qt_move rfl rfl) ?_
          refine g_v (.free rfl) rfl rfl (qt_lss rfl rfl rfl) ?_
          refine g_splitv (.free rfl) rfl rfl (qt_move rfl rfl) (fun hs21_2 => ?_) (fun hs21_2 => ?_)
          · try simp only [decide_eq_true_eq, decide_eq_false_iff_not, Bool.not_eq_true', Bool.not_eq_false', Bool.not_eq_eq_eq_not, Bool.not_true, Bool.not_false, ne_eq, Decidable.not_not, Classical.not_not] at hs21_2
            first | (exfalso; omega) | exact absurd rfl hs21_2 | (simp at hs21_2)
          · try simp only [decide_eq_true_eq, decide_eq_false_iff_not, Bool.not_eq_true', Bool.not_eq_false', Bool.not_eq_eq_eq_not, Bool.not_true, Bool.not_false, ne_eq, Decidable.not_not, Classical.not_not] at hs21_2
            refine g_v (.held _ _ _ rfl rfl rfl) rfl rfl (qt_loadS (n := 11) rfl rfl Try.underlying34 rfl (by kernel_rfl) rfl) ?_
            refine g_v (.held _ _ _ rfl rfl rfl) rfl rfl (qt_loadS (n := 3) rfl rfl Try.underlying34 rfl (by kernel_rfl) rfl) ?_
            refine g_q (.held _ _ _ rfl rfl rfl) rfl rfl (qt_call rfl Try.func24 rfl (by decide) rfl (fun w M => eqF_refl_any w _ _ _ ((mem_ownF (n := 10) M rfl).rd) ((mem_ownF (n := 5) M rfl).rd))) ?_
            refine g_v (.held _ _ _ rfl rfl rfl) rfl rfl (qt_not rfl rfl) ?_
            refine g_v (.free rfl) rfl rfl (qt_pick_f rfl rfl rfl) ?_
            refine g_v (.free rfl) rfl rfl (qt_move rfl rfl) ?_
            refine g_v (.held _ _ _ rfl rfl rfl) rfl rfl (qt_move rfl rfl) ?_
            refine g_v (.held _ _ _ rfl rfl rfl) rfl rfl (qt_move rfl rfl) ?_
            refine g_v (.held _ _ _ rfl rfl rfl) rfl rfl (qt_neq_f rfl rfl rfl (fun h => h rfl)) ?_
            refine g_v (.free rfl) rfl rfl (qt_pick_f rfl rfl rfl) ?_
            refine g_nil ?_
            refine gk_then (hK306 _ _ ?_)
            refine gc_cond_f rfl ?_
            refine gc_skip ?_
            refine gk_then (hK305 _ _ ?_)
            refine gc_seq fun K307 hK307 => ?_
            refine gc_region ?_
            refine g_v (.free rfl) rfl rfl (qt_assign rfl rfl) ?_
            refine g_nil ?_
            refine gk_then (hK307 _ _ ?_)
            refine gc_seq fun K308 hK308 => ?_
            refine gc_region ?_
            refine g_v (.free rfl) rfl rfl (qt_loadS (n := 11) rfl rfl Try.underlying34 rfl (by kernel_rfl) rfl) ?_
            refine g_v (.free rfl) rfl rfl (qt_move rfl rfl) ?_
            refine g_op (.free rfl) fun K309 hK309 => ?_
            refine go_one (n := 10) rfl rfl rfl Try.func25 rfl (by decide) rfl rfl (fun R w M => markF1_any _ w R _ _ _ _ _ _ _ _ _ _ _ _ (by omega) (by omega) M) ?_
            refine hK309 _ _ ?_
            refine g_v (.free rfl) rfl rfl (qt_assign rfl rfl) ?_
            refine g_nil ?_
            refine gk_then (hK308 _ _ ?_)
            refine gc_seq fun K310 hK310 => ?_
            refine gc_region ?_
            refine g_v (.free rfl) rfl rfl (qt_assign rfl rfl) ?_
            refine g_nil ?_
            refine gk_then (hK310 _ _ ?_)
            refine gc_seq fun K311 hK311 => ?_
            refine gc_region ?_
            refine g_v (.free rfl) rfl rfl (qt_loadS (n := 11) rfl rfl Try.underlying34 rfl (by kernel_rfl) rfl) ?_
            refine g_v (.free rfl) rfl rfl (qt_move rfl rfl) ?_
            refine g_q (.free rfl) rfl rfl (qt_call rfl Try.func42 rfl (by decide) rfl (fun w M => heldF_any w _ _ _ ((mem_ownF (n := 10) M rfl).rd) (by first | assumption | omega) (by first | assumption | omega))) ?_
            refine g_v (.free rfl) rfl rfl (qt_assign rfl rfl) ?_
            refine g_nil ?_
            refine gk_then (hK311 _ _ ?_)
            refine gc_seq fun K312 hK312 => ?_
            refine gc_seq fun K313 hK313 => ?_
            refine gc_region ?_
            refine g_v (.free rfl) rfl rfl (qt_move rfl rfl) ?_
            refine g_v (.free rfl) rfl rfl (qt_lss rfl rfl rfl) ?_
            refine g_nil ?_
            refine gk_then (hK313 _ _ ?_)
            refine gc_cond rfl (fun hc22 => ?_) (fun hc22 => ?_)
            · try simp only [decide_eq_true_eq, decide_eq_false_iff_not, Bool.not_eq_true', Bool.not_eq_false', Bool.not_eq_eq_eq_not, Bool.not_true, Bool.not_false, ne_eq, Decidable.not_not, Classical.not_not] at hc22
              first | (exfalso; omega) | exact absurd rfl hc22 | (simp at hc22)
            · try simp only [decide_eq_true_eq, decide_eq_false_iff_not, Bool.not_eq_true', Bool.not_eq_false', Bool.not_eq_eq_eq_not, Bool.not_true, Bool.not_false, ne_eq, Decidable.not_not, Classical.not_not] at hc22
              refine gc_skip ?_
              refine gk_then (hK312 _ _ ?_)
              refine gc_seq fun K314 hK314 => ?_
              refine gc_seq fun K315 hK315 => ?_
              refine gc_region ?_
              refine g_v (.free rfl) rfl rfl (qt_move rfl rfl) ?_
              refine g_v (.free rfl) rfl rfl (qt_move rfl rfl) ?_
              refine g_v (.free rfl) rfl rfl (qt_neq rfl rfl rfl) ?_
              refine g_nil ?_
              refine gk_then (hK315 _ _ ?_)
              refine gc_cond rfl (fun hc23 => ?_) (fun hc23 => ?_)
              · try simp only [decide_eq_true_eq, decide_eq_false_iff_not, Bool.not_eq_true', Bool.not_eq_false', Bool.not_eq_eq_eq_not, Bool.not_true, Bool.not_false, ne_eq, Decidable.not_not, Classical.not_not] at hc23
                first | (exfalso; omega) | exact absurd rfl hc23 | (simp at hc23)
              · try simp only [decide_eq_true_eq, decide_eq_false_iff_not, Bool.not_eq_true', Bool.not_eq_false', Bool.not_eq_eq_eq_not, Bool.not_true, Bool.not_false, ne_eq, Decidable.not_not, Classical.not_not] at hc23
                refine gc_skip ?_
                refine gk_then (hK314 _ _ ?_)
                refine gc_seq fun K316 hK316 => ?_
                try simp only [List.nil_append, List.cons_append, List.append_assoc, List.set_cons_succ, List.set_cons_zero]
                refine ga_start _ (fun w M => M) ?_
                refine ga_v 0 rfl (by kernel_rfl) (by kernel_rfl) (by kernel_rfl) (.free rfl) rfl rfl (qt_loadS (n := 0) rfl rfl Try.underlying27 rfl (by kernel_rfl) rfl) (fun _ _ _ h => h) ?_
                refine ga_v 2 rfl (by kernel_rfl) (by kernel_rfl) (by kernel_rfl) (.free rfl) rfl rfl (qt_loadS (n := 1) rfl rfl Try.underlying27 rfl (by kernel_rfl) rfl) (fun _ _ _ h => h) ?_
                refine ga_two 1 8 (by kernel_rfl) rfl rfl (.free rfl) (.free rfl) (fun K317 hK317 => ?_) (fun K317 hK317 => ?_)
                · refine go_callFn1 rfl rfl rfl Try.func22 rfl (by decide) rfl (fun w M => toF_any w _ _ (mem_rdF M R0)) ?_
                  intro fx1_318 fk1_318 fx2_318 fk2_318 fx3_318 fk3_318 fx4_318 fk4_318 fx5_318 fk5_318 fx6_318 fk6_318 fx7_318 fk7_318 fx8_318 fk8_318 fx9_318 fk9_318 fx10_318 fk10_318
                  refine hK317 _ _ (fun w M => (mem_take 14 M :)) ?_
                  refine ga_two 3 8 (by kernel_rfl) rfl rfl (.free rfl) (.free rfl) (fun K320 hK320 => ?_) (fun K320 hK320 => ?_)
                  · refine go_callFn1 rfl rfl rfl Try.func22 rfl (by decide) rfl (fun w M => toF_any w _ _ (mem_rdF M R1)) ?_
                    intro fx1_321 fk1_321 fx2_321 fk2_321 fx3_321 fk3_321 fx4_321 fk4_321 fx5_321 fk5_321 fx6_321 fk6_321 fx7_321 fk7_321 fx8_321 fk8_321 fx9_321 fk9_321 fx10_321 fk10_321
                    refine hK320 _ _ (fun w M => (mem_take 14 M :)) ?_
                    refine ga_two 4 8 (by kernel_rfl) rfl rfl (.free rfl) (.free rfl) (fun K323 hK323 => ?_) (fun K323 hK323 => ?_)
                    · refine go_callFI1 rfl rfl rfl Try.func41 rfl (by decide) rfl (fun w M => himpl w _ _ ((mem_ownF (n := 14) M rfl).rd) ((mem_ownF (n := 15) M rfl).rd)) ?_
                      intro fx1_324 fk1_324 fx2_324 fk2_324 fx3_324 fk3_324 fx4_324 fk4_324 fx5_324 fk5_324 fx6_324 fk6_324 fx7_324 fk7_324 fx8_324 fk8_324 fx9_324 fk9_324 fx10_324 fk10_324
                      refine hK323 _ _ (fun w M => (mem_take 14 M :)) ?_
                      refine ga_v 5 rfl (by kernel_rfl) (by kernel_rfl) (by kernel_rfl) (.free rfl) rfl rfl (qt_move rfl rfl) (fun _ _ _ h => h) ?_
                      refine ga_v 6 rfl (by kernel_rfl) (by kernel_rfl) (by kernel_rfl) (.free rfl) rfl rfl (qt_extract rfl rfl rfl) (fun _ _ _ h => h) ?_
                      refine ga_v 7 rfl (by kernel_rfl) (by kernel_rfl) (by kernel_rfl) (.free rfl) rfl rfl (qt_extract rfl rfl rfl) (fun _ _ _ h => h) ?_
                      refine ga_op 8 (by kernel_rfl) rfl (.free rfl) fun K327 hK327 => ?_
                      refine go_alloc (z := (.agg #[.int .i64 0, .slice none 0 0, .slice none 0 0, .slice none 0 0, .slice none 0 0, .int .i64 0, .slice none 0 0, .slice none 0 0, .slice none 0 0, .slice none 0 0, .slice none 0 0, .slice none 0 0])) (cs := [.int .i64 0, .slice none 0 0, .slice none 0 0, .slice none 0 0, .slice none 0 0, .int .i64 0, .slice none 0 0, .slice none 0 0, .slice none 0 0, .slice none 0 0, .slice none 0 0, .slice none 0 0]) rfl rfl rfl (fun w => by kernel_rfl) rfl ?_
                      intro B326
                      refine hK327 _ _ (fun w M => (mem_take 14 M :)) ?_
                      refine ga_op 9 (by kernel_rfl) rfl (.free rfl) fun K328 hK328 => ?_
                      refine go_storeS (n := 17) rfl rfl rfl rfl (by kernel_rfl) rfl rfl rfl ?_
                      refine hK328 _ _ (fun w M => (mem_take 14 M :)) ?_
                      refine ga_v 10 rfl (by kernel_rfl) (by kernel_rfl) (by kernel_rfl) (.free rfl) rfl rfl (qt_assign rfl rfl) (fun _ _ _ h => h) ?_
                      refine ga_done (by kernel_rfl) ?_
                      refine gk_then (hK316 _ _ ?_)
                      refine gc_seq fun K329 hK329 => ?_
                      refine gc_seq fun K330 hK330 => ?_
                      refine gc_region ?_
                      refine g_v (.free rfl) rfl rfl (qt_loadS (n := 17) rfl rfl Try.underlying34 rfl (by kernel_rfl) rfl) ?_
                      refine g_v (.free rfl) rfl rfl (qt_loadS (n := 3) rfl rfl Try.underlying34 rfl (by kernel_rfl) rfl) ?_
                      refine g_q (.free rfl) rfl rfl (qt_call rfl Try.func24 rfl (by decide) rfl (fun w M => eqF_refl_any w _ _ _ ((mem_ownF (n := 16) M rfl).rd) ((mem_ownF (n := 5) M rfl).rd))) ?_
                      refine g_v (.free rfl) rfl rfl (qt_not rfl rfl) ?_
                      refine g_v (.free rfl) rfl rfl (qt_move rfl rfl) ?_
                      refine g_v (.held _ _ _ rfl rfl rfl) rfl rfl (qt_move rfl rfl) ?_
                      refine g_v (.held _ _ _ rfl rfl rfl) rfl rfl (qt_move rfl rfl) ?_
                      refine g_v (.held _ _ _ rfl rfl rfl) rfl rfl (qt_neq_f rfl rfl rfl (fun h => h rfl)) ?_
                      refine g_v (.free rfl) rfl rfl (qt_pick_f rfl rfl rfl) ?_
                      refine g_nil ?_
                      refine gk_then (hK330 _ _ ?_)
                      refine gc_cond_f rfl ?_
                      refine gc_skip ?_
                      refine gk_then (hK329 _ _ ?_)
                      refine gc_seq fun K331 hK331 => ?_
                      refine gc_region ?_
                      refine g_v (.free rfl) rfl rfl (qt_assign rfl rfl) ?_
                      refine g_nil ?_
                      refine gk_then (hK331 _ _ ?_)
                      refine gc_seq fun K332 hK332 => ?_
                      refine gc_region ?_
                      refine g_v (.free rfl) rfl rfl (qt_loadS (n := 11) rfl rfl Try.underlying34 rfl (by kernel_rfl) rfl) ?_
                      refine g_v (.free rfl) rfl rfl (qt_move rfl rfl) ?_
                      refine g_q (.free rfl) rfl rfl (qt_call rfl Try.func42 rfl (by decide) rfl (fun w M => heldF_any w _ _ _ ((mem_ownF (n := 10) M rfl).rd) (by first | assumption | omega) (by first | assumption | omega))) ?_
                      refine g_v (.free rfl) rfl rfl (qt_assign rfl rfl) ?_
                      refine g_nil ?_
                      refine gk_then (hK332 _ _ ?_)
                      refine gc_seq fun K333 hK333 => ?_
                      refine gc_seq fun K334 hK334 => ?_
                      refine gc_region ?_
                      refine g_v (.free rfl) rfl rfl (qt_move rfl rfl) ?_
                      refine g_v (.free rfl) rfl rfl (qt_lss rfl rfl rfl) ?_
                      refine g_nil ?_
                      refine gk_then (hK334 _ _ ?_)
                      refine gc_cond rfl (fun hc24 => ?_) (fun hc24 => ?_)
                      · try simp only [decide_eq_true_eq, decide_eq_false_iff_not, Bool.not_eq_true', Bool.not_eq_false', Bool.not_eq_eq_eq_not, Bool.not_true, Bool.not_false, ne_eq, Decidable.not_not, Classical.not_not] at hc24
                        first | (exfalso; omega) | exact absurd rfl hc24 | (simp at hc24)
                      · try simp only [decide_eq_true_eq, decide_eq_false_iff_not, Bool.not_eq_true', Bool.not_eq_false', Bool.not_eq_eq_eq_not, Bool.not_true, Bool.not_false, ne_eq, Decidable.not_not, Classical.not_not] at hc24
                        refine gc_skip ?_
                        refine gk_then (hK333 _ _ ?_)
                        refine gc_seq fun K335 hK335 => ?_
                        refine gc_seq fun K336 hK336 => ?_
                        refine gc_region ?_
                        refine g_v (.free rfl) rfl rfl (qt_move rfl rfl) ?_
                        refine g_v (.free rfl) rfl rfl (qt_move rfl rfl) ?_
                        refine g_v (.free rfl) rfl rfl (qt_neq rfl rfl rfl) ?_
                        refine g_nil ?_
                        refine gk_then (hK336 _ _ ?_)
                        refine gc_cond rfl (fun hc25 => ?_) (fun hc25 => ?_)
                        · try simp only [decide_eq_true_eq, decide_eq_false_iff_not, Bool.not_eq_true', Bool.not_eq_false', Bool.not_eq_eq_eq_not, Bool.not_true, Bool.not_false, ne_eq, Decidable.not_not, Classical.not_not] at hc25
                          first | (exfalso; omega) | exact absurd rfl hc25 | (simp at hc25)
                        · try simp only [decide_eq_true_eq, decide_eq_false_iff_not, Bool.not_eq_true', Bool.not_eq_false', Bool.not_eq_eq_eq_not, Bool.not_true, Bool.not_false, ne_eq, Decidable.not_not, Classical.not_not] at hc25
                          refine gc_skip ?_
                          refine gk_then (hK335 _ _ ?_)
                          refine gc_seq fun K337 hK337 => ?_
                          refine gc_region ?_
                          refine g_v (.free rfl) rfl rfl (qt_assign rfl rfl) ?_
                          refine g_nil ?_
                          refine gk_then (hK337 _ _ ?_)
                          refine gc_ret ?_
                          refine ret_1 rfl rfl  (fun w M => ?_)
                          exact ⟨rfl, M.1⟩
                    · refine go_alloc (z := (.agg #[.int .i64 0, .slice none 0 0, .slice none 0 0, .slice none 0 0, .slice none 0 0, .int .i64 0, .slice none 0 0, .slice none 0 0, .slice none 0 0, .slice none 0 0, .slice none 0 0, .slice none 0 0])) (cs := [.int .i64 0, .slice none 0 0, .slice none 0 0, .slice none 0 0, .slice none 0 0, .int .i64 0, .slice none 0 0, .slice none 0 0, .slice none 0 0, .slice none 0 0, .slice none 0 0, .slice none 0 0]) rfl rfl rfl (fun w => by kernel_rfl) rfl ?_
                      intro B338
                      refine hK323 _ _ (fun w M => (mem_take 14 M :)) ?_
                      refine ga_op 4 (by kernel_rfl) rfl (.free rfl) fun K341 hK341 => ?_
                      refine go_callFI1 rfl rfl rfl Try.func41 rfl (by decide) rfl (fun w M => himpl w _ _ ((mem_ownF (n := 14) M rfl).rd) ((mem_ownF (n := 15) M rfl).rd)) ?_
                      intro fx1_340 fk1_340 fx2_340 fk2_340 fx3_340 fk3_340 fx4_340 fk4_340 fx5_340 fk5_340 fx6_340 fk6_340 fx7_340 fk7_340 fx8_340 fk8_340 fx9_340 fk9_340 fx10_340 fk10_340
                      refine hK341 _ _ (fun w M => (mem_take 14 M :)) ?_
                      refine ga_v 5 rfl (by kernel_rfl) (by kernel_rfl) (by kernel_rfl) (.free rfl) rfl rfl (qt_move rfl rfl) (fun _ _ _ h => h) ?_
                      refine ga_v 6 rfl (by kernel_rfl) (by kernel_rfl) (by kernel_rfl) (.free rfl) rfl rfl (qt_extract rfl rfl rfl) (fun _ _ _ h => h) ?_
                      refine ga_v 7 rfl (by kernel_rfl) (by kernel_rfl) (by kernel_rfl) (.free rfl) rfl rfl (qt_extract rfl rfl rfl) (fun _ _ _ h => h) ?_
                      refine ga_op 9 (by kernel_rfl) rfl (.free rfl) fun K342 hK342 => ?_
                      refine go_storeS (n := 16) rfl rfl rfl rfl (by kernel_rfl) rfl rfl rfl ?_
                      refine hK342 _ _ (fun w M => (mem_take 14 M :)) ?_
                      refine ga_v 10 rfl (by kernel_rfl) (by kernel_rfl) (by kernel_rfl) (.free rfl) rfl rfl (qt_assign rfl rfl) (fun _ _ _ h => h) ?_
                      refine ga_done (by kernel_rfl) ?_
                      refine gk_then (hK316 _ _ ?_)
                      refine gc_seq fun K343 hK343 => ?_
                      refine gc_seq fun K344 hK344 => ?_
                      refine gc_region ?_
                      refine g_v (.free rfl) rfl rfl (qt_loadS (n := 16) rfl rfl Try.underlying34 rfl (by kernel_rfl) rfl) ?_
                      refine g_v (.free rfl) rfl rfl (qt_loadS (n := 3) rfl rfl Try.underlying34 rfl (by kernel_rfl) rfl) ?_
                      refine g_q (.free rfl) rfl rfl (qt_call rfl Try.func24 rfl (by decide) rfl (fun w M => eqF_refl_any w _ _ _ ((mem_ownF (n := 17) M rfl).rd) ((mem_ownF (n := 5) M rfl).rd))) ?_
                      refine g_v (.free rfl) rfl rfl (qt_not rfl rfl) ?_
                      refine g_v (.free rfl) rfl rfl (qt_move rfl rfl) ?_
                      refine g_v (.held _ _ _ rfl rfl rfl) rfl rfl (qt_move rfl rfl) ?_
                      refine g_v (.held _ _ _ rfl rfl rfl) rfl rfl (qt_move rfl rfl) ?_
                      refine g_v (.held _ _ _ rfl rfl rfl) rfl rfl (qt_neq_f rfl rfl rfl (fun h => h rfl)) ?_
                      refine g_v (.free rfl) rfl rfl (qt_pick_f rfl rfl rfl) ?_
                      refine g_nil ?_
                      refine gk_then (hK344 _ _ ?_)
                      refine gc_cond_f rfl ?_
                      refine gc_skip ?_
                      refine gk_then (hK343 _ _ ?_)
                      refine gc_seq fun K345 hK345 => ?_
                      refine gc_region ?_
                      refine g_v (.free rfl) rfl rfl (qt_assign rfl rfl) ?_
                      refine g_nil ?_
                      refine gk_then (hK345 _ _ ?_)
                      refine gc_seq fun K346 hK346 => ?_
                      refine gc_region ?_
                      refine g_v (.free rfl) rfl rfl (qt_loadS (n := 11) rfl rfl Try.underlying34 rfl (by kernel_rfl) rfl) ?_
                      refine g_v (.free rfl) rfl rfl (qt_move rfl rfl) ?_
                      refine g_q (.free rfl) rfl rfl (qt_call rfl Try.func42 rfl (by decide) rfl (fun w M => heldF_any w _ _ _ ((mem_ownF (n := 10) M rfl).rd) (by first | assumption | omega) (by first | assumption | omega))) ?_
                      refine g_v (.free rfl) rfl rfl (qt_assign rfl rfl) ?_
                      refine g_nil ?_
                      refine gk_then (hK346 _ _ ?_)
                      refine gc_seq fun K347 hK347 => ?_
                      refine gc_seq fun K348 hK348 => ?_
                      refine gc_region ?_
                      refine g_v (.free rfl) rfl rfl (qt_move rfl rfl) ?_
                      refine g_v (.free rfl) rfl rfl (qt_lss rfl rfl rfl) ?_
                      refine g_nil ?_
                      refine gk_then (hK348 _ _ ?_)
                      refine gc_cond rfl (fun hc26 => ?_) (fun hc26 => ?_)
                      · try simp only [decide_eq_true_eq, decide_eq_false_iff_not, Bool.not_eq_true', Bool.not_eq_false', Bool.not_eq_eq_eq_not, Bool.not_true, Bool.not_false, ne_eq, Decidable.not_not, Classical.not_not] at hc26
                        first | (exfalso; omega) | exact absurd rfl hc26 | (simp at hc26)
                      · try simp only [decide_eq_true_eq, decide_eq_false_iff_not, Bool.not_eq_true', Bool.not_eq_false', Bool.not_eq_eq_eq_not, Bool.not_true, Bool.not_false, ne_eq, Decidable.not_not, Classical.not_not] at hc26
                        refine gc_skip ?_
                        refine gk_then (hK347 _ _ ?_)
                        refine gc_seq fun K349 hK349 => ?_
                        refine gc_seq fun K350 hK350 => ?_
                        refine gc_region ?_
                        refine g_v (.free rfl) rfl rfl (qt_move rfl rfl) ?_
                        refine g_v (.free rfl) rfl rfl (qt_move rfl rfl) ?_
                        refine g_v (.free rfl) rfl rfl (qt_neq rfl rfl rfl) ?_
                        refine g_nil ?_
                        refine gk_then (hK350 _ _ ?_)
                        refine gc_cond rfl (fun hc27 => ?_) (fun hc27 => ?_)
                        · try simp only [decide_eq_true_eq, decide_eq_false_iff_not, Bool.not_eq_true', Bool.not_eq_false', Bool.not_eq_eq_eq_not, Bool.not_true, Bool.not_false, ne_eq, Decidable.not_not, Classical.not_not] at hc27
                          first | (exfalso; omega) | exact absurd rfl hc27 | (simp at hc27)
                        · try simp only [decide_eq_true_eq, decide_eq_false_iff_not, Bool.not_eq_true', Bool.not_eq_false', Bool.not_eq_eq_eq_not, Bool.not_true, Bool.not_false, ne_eq, Decidable.not_not, Classical.not_not] at hc27
                          refine gc_skip ?_
                          refine gk_then (hK349 _ _ ?_)
                          refine gc_seq fun K351 hK351 => ?_
                          refine gc_region ?_
                          refine g_v (.free rfl) rfl rfl (qt_assign rfl rfl) ?_
                          refine g_nil ?_
                          refine gk_then (hK351 _ _ ?_)
                          refine gc_ret ?_
                          refine ret_1 rfl rfl  (fun w M => ?_)
                          exact ⟨rfl, M.1⟩
                  · refine go_alloc (z := (.agg #[.int .i64 0, .slice none 0 0, .slice none 0 0, .slice none 0 0, .slice none 0 0, .int .i64 0, .slice none 0 0, .slice none 0 0, .slice none 0 0, .slice none 0 0, .slice none 0 0, .slice none 0 0])) (cs := [.int .i64 0, .slice none 0 0, .slice none 0 0, .slice none 0 0, .slice none 0 0, .int .i64 0, .slice none 0 0, .slice none 0 0, .slice none 0 0, .slice none 0 0, .slice none 0 0, .slice none 0 0]) rfl rfl rfl (fun w => by kernel_rfl) rfl ?_
                    intro B352
                    refine hK320 _ _ (fun w M => (mem_take 14 M :)) ?_
                    refine ga_op 3 (by kernel_rfl) rfl (.free rfl) fun K355 hK355 => ?_
                    refine go_callFn1 rfl rfl rfl Try.func22 rfl (by decide) rfl (fun w M => toF_any w _ _ (mem_rdF M R1)) ?_
                    intro fx1_354 fk1_354 fx2_354 fk2_354 fx3_354 fk3_354 fx4_354 fk4_354 fx5_354 fk5_354 fx6_354 fk6_354 fx7_354 fk7_354 fx8_354 fk8_354 fx9_354 fk9_354 fx10_354 fk10_354
                    refine hK355 _ _ (fun w M => (mem_take 14 M :)) ?_
                    refine ga_op 4 (by kernel_rfl) rfl (.free rfl) fun K357 hK357 => ?_
                    refine go_callFI1 rfl rfl rfl Try.func41 rfl (by decide) rfl (fun w M => himpl w _ _ ((mem_ownF (n := 14) M rfl).rd) ((mem_ownF (n := 16) M rfl).rd)) ?_
                    intro fx1_356 fk1_356 fx2_356 fk2_356 fx3_356 fk3_356 fx4_356 fk4_356 fx5_356 fk5_356 fx6_356 fk6_356 fx7_356 fk7_356 fx8_356 fk8_356 fx9_356 fk9_356 fx10_356 fk10_356
                    refine hK357 _ _ (fun w M => (mem_take 14 M :)) ?_
                    refine ga_v 5 rfl (by kernel_rfl) (by kernel_rfl) (by kernel_rfl) (.free rfl) rfl rfl (qt_move rfl rfl) (fun _ _ _ h => h) ?_
                    refine ga_v 6 rfl (by kernel_rfl) (by kernel_rfl) (by kernel_rfl) (.free rfl) rfl rfl (qt_extract rfl rfl rfl) (fun _ _ _ h => h) ?_
                    refine ga_v 7 rfl (by kernel_rfl) (by kernel_rfl) (by kernel_rfl) (.free rfl) rfl rfl (qt_extract rfl rfl rfl) (fun _ _ _ h => h) ?_
                    refine ga_op 9 (by kernel_rfl) rfl (.free rfl) fun K358 hK358 => ?_
                    refine go_storeS (n := 15) rfl rfl rfl rfl (by kernel_rfl) rfl rfl rfl ?_
                    refine hK358 _ _ (fun w M => (mem_take 14 M :)) ?_
                    refine ga_v 10 rfl (by kernel_rfl) (by kernel_rfl) (by kernel_rfl) (.free rfl) rfl rfl (qt_assign rfl rfl) (fun _ _ _ h => h) ?_
                    refine ga_done (by kernel_rfl) ?_
                    refine gk_then (hK316 _ _ ?_)
                    refine gc_seq fun K359 hK359 => ?_
                    refine gc_seq fun K360 hK360 => ?_
                    refine gc_region ?_
                    refine g_v (.free rfl) rfl rfl (qt_loadS (n := 15) rfl rfl Try.underlying34 rfl (by kernel_rfl) rfl) ?_
                    refine g_v (.free rfl) rfl rfl (qt_loadS (n := 3) rfl rfl Try.underlying34 rfl (by kernel_rfl) rfl) ?_
                    refine g_q (.free rfl) rfl rfl (qt_call rfl Try.func24 rfl (by decide) rfl (fun w M => eqF_refl_any w _ _ _ ((mem_ownF (n := 17) M rfl).rd) ((mem_ownF (n := 5) M rfl).rd))) ?_
                    refine g_v (.free rfl) rfl rfl (qt_not rfl rfl) ?_
                    refine g_v (.free rfl) rfl rfl (qt_move rfl rfl) ?_
                    refine g_v (.held _ _ _ rfl rfl rfl) rfl rfl (qt_move rfl rfl) ?_
                    refine g_v (.held _ _ _ rfl rfl rfl) rfl rfl (qt_move rfl rfl) ?_
                    refine g_v (.held _ _ _ rfl rfl rfl) rfl rfl (qt_neq_f rfl rfl rfl (fun h => h rfl)) ?_
                    refine g_v (.free rfl) rfl rfl (qt_pick_f rfl rfl rfl) ?_
                    refine g_nil ?_
                    refine gk_then (hK360 _ _ ?_)
                    refine gc_cond_f rfl ?_
                    refine gc_skip ?_
                    refine gk_then (hK359 _ _ ?_)
                    refine gc_seq fun K361 hK361 => ?_
                    refine gc_region ?_
                    refine g_v (.free rfl) rfl rfl (qt_assign rfl rfl) ?_
                    refine g_nil ?_
                    refine gk_then (hK361 _ _ ?_)
                    refine gc_seq fun K362 hK362 => ?_
                    refine gc_region ?_
                    refine g_v (.free rfl) rfl rfl (qt_loadS (n := 11) rfl rfl Try.underlying34 rfl (by kernel_rfl) rfl) ?_
                    refine g_v (.free rfl) rfl rfl (qt_move rfl rfl) ?_
                    refine g_q (.free rfl) rfl rfl (qt_call rfl Try.func42 rfl (by decide) rfl (fun w M => heldF_any w _ _ _ ((mem_ownF (n := 10) M rfl).rd) (by first | assumption | omega) (by first | assumption | omega))) ?_
                    refine g_v (.free rfl) rfl rfl (qt_assign rfl rfl) ?_
                    refine g_nil ?_
                    refine gk_then (hK362 _ _ ?_)
                    refine gc_seq fun K363 hK363 => ?_
                    refine gc_seq fun K364 hK364 => ?_
                    refine gc_region ?_
                    refine g_v (.free rfl) rfl rfl (qt_move rfl rfl) ?_
                    refine g_v (.free rfl) rfl rfl (qt_lss rfl rfl rfl) ?_
                    refine g_nil ?_
                    refine gk_then (hK364 _ _ ?_)
                    refine gc_cond rfl (fun hc28 => ?_) (fun hc28 => ?_)
                    · try simp only [decide_eq_true_eq, decide_eq_false_iff_not, Bool.not_eq_true', Bool.not_eq_false', Bool.not_eq_eq_eq_not, Bool.not_true, Bool.not_false, ne_eq, Decidable.not_not, Classical.not_not] at hc28
                      first | (exfalso; omega) | exact absurd rfl hc28 | (simp at hc28)
                    · try simp only [decide_eq_true_eq, decide_eq_false_iff_not, Bool.not_eq_true', Bool.not_eq_false', Bool.not_eq_eq_eq_not, Bool.not_true, Bool.not_false, ne_eq, Decidable.not_not, Classical.not_not] at hc28
                      refine gc_skip ?_
                      refine gk_then (hK363 _ _ ?_)
                      refine gc_seq fun K365 hK365 => ?_
                      refine gc_seq fun K366 hK366 => ?_
                      refine gc_region ?_
                      refine g_v (.free rfl) rfl rfl (qt_move rfl rfl) ?_
                      refine g_v (.free rfl) rfl rfl (qt_move rfl rfl) ?_
                      refine g_v (.free rfl) rfl rfl (qt_neq rfl rfl rfl) ?_
                      refine g_nil ?_
                      refine gk_then (hK366 _ _ ?_)
                      refine gc_cond rfl (fun hc29 => ?_) (fun hc29 => ?_)
                      · try simp only [decide_eq_true_eq, decide_eq_false_iff_not, Bool.not_eq_true', Bool.not_eq_false', Bool.not_eq_eq_eq_not, Bool.not_true, Bool.not_false, ne_eq, Decidable.not_not, Classical.not_not] at hc29
                        first | (exfalso; omega) | exact absurd rfl hc29 | (simp at hc29)
                      · try simp only [decide_eq_true_eq, decide_eq_false_iff_not, Bool.not_eq_true', Bool.not_eq_false', Bool.not_eq_eq_eq_not, Bool.not_true, Bool.not_false, ne_eq, Decidable.not_not, Classical.not_not] at hc29
                        refine gc_skip ?_
                        refine gk_then (hK365 _ _ ?_)
                        refine gc_seq fun K367 hK367 => ?_
                        refine gc_region ?_
                        refine g_v (.free rfl) rfl rfl (qt_assign rfl rfl) ?_
                        refine g_nil ?_
                        refine gk_then (hK367 _ _ ?_)
                        refine gc_ret ?_
                        refine ret_1 rfl rfl  (fun w M => ?_)
                        exact ⟨rfl, M.1⟩
                · refine go_alloc (z := (.agg #[.int .i64 0, .slice none 0 0, .slice none 0 0, .slice none 0 0, .slice none 0 0, .int .i64 0, .slice none 0 0, .slice none 0 0, .slice none 0 0, .slice none 0 0, .slice none 0 0, .slice none 0 0])) (cs := [.int .i64 0, .slice none 0 0, .slice none 0 0, .slice none 0 0, .slice none 0 0, .int .i64 0, .slice none 0 0, .slice none 0 0, .slice none 0 0, .slice none 0 0, .slice none 0 0, .slice none 0 0]) rfl rfl rfl (fun w => by kernel_rfl) rfl ?_
                  intro B368
                  refine hK317 _ _ (fun w M => (mem_take 14 M :)) ?_
                  refine ga_op 1 (by kernel_rfl) rfl (.free rfl) fun K371 hK371 => ?_
                  refine go_callFn1 rfl rfl rfl Try.func22 rfl (by decide) rfl (fun w M => toF_any w _ _ (mem_rdF M R0)) ?_
                  intro fx1_370 fk1_370 fx2_370 fk2_370 fx3_370 fk3_370 fx4_370 fk4_370 fx5_370 fk5_370 fx6_370 fk6_370 fx7_370 fk7_370 fx8_370 fk8_370 fx9_370 fk9_370 fx10_370 fk10_370
                  refine hK371 _ _ (fun w M => (mem_take 14 M :)) ?_
                  refine ga_op 3 (by kernel_rfl) rfl (.free rfl) fun K373 hK373 => ?_
                  refine go_callFn1 rfl rfl rfl Try.func22 rfl (by decide) rfl (fun w M => toF_any w _ _ (mem_rdF M R1)) ?_
                  intro fx1_372 fk1_372 fx2_372 fk2_372 fx3_372 fk3_372 fx4_372 fk4_372 fx5_372 fk5_372 fx6_372 fk6_372 fx7_372 fk7_372 fx8_372 fk8_372 fx9_372 fk9_372 fx10_372 fk10_372
                  refine hK373 _ _ (fun w M => (mem_take 14 M :)) ?_
                  refine ga_op 4 (by kernel_rfl) rfl (.free rfl) fun K375 hK375 => ?_
                  refine go_callFI1 rfl rfl rfl Try.func41 rfl (by decide) rfl (fun w M => himpl w _ _ ((mem_ownF (n := 15) M rfl).rd) ((mem_ownF (n := 16) M rfl).rd)) ?_
                  intro fx1_374 fk1_374 fx2_374 fk2_374 fx3_374 fk3_374 fx4_374 fk4_374 fx5_374 fk5_374 fx6_374 fk6_374 fx7_374 fk7_374 fx8_374 fk8_374 fx9_374 fk9_374 fx10_374 fk10_374
                  refine hK375 _ _ (fun w M => (mem_take 14 M :)) ?_
                  refine ga_v 5 rfl (by kernel_rfl) (by kernel_rfl) (by kernel_rfl) (.free rfl) rfl rfl (qt_move rfl rfl) (fun _ _ _ h => h) ?_
                  refine ga_v 6 rfl (by kernel_rfl) (by kernel_rfl) (by kernel_rfl) (.free rfl) rfl rfl (qt_extract rfl rfl rfl) (fun _ _ _ h => h) ?_
                  refine ga_v 7 rfl (by kernel_rfl) (by kernel_rfl) (by kernel_rfl) (.free rfl) rfl rfl (qt_extract rfl rfl rfl) (fun _ _ _ h => h) ?_
                  refine ga_op 9 (by kernel_rfl) rfl (.free rfl) fun K376 hK376 => ?_
                  refine go_storeS (n := 14) rfl rfl rfl rfl (by kernel_rfl) rfl rfl rfl ?_
                  refine hK376 _ _ (fun w M => (mem_take 14 M :)) ?_
                  refine ga_v 10 rfl (by kernel_rfl) (by kernel_rfl) (by kernel_rfl) (.free rfl) rfl rfl (qt_assign rfl rfl) (fun _ _ _ h => h) ?_
                  refine ga_done (by kernel_rfl) ?_
                  refine gk_then (hK316 _ _ ?_)
                  refine gc_seq fun K377 hK377 => ?_
                  refine gc_seq fun K378 hK378 => ?_
                  refine gc_region ?_
                  refine g_v (.free rfl) rfl rfl (qt_loadS (n := 14) rfl rfl Try.underlying34 rfl (by kernel_rfl) rfl) ?_
                  refine g_v (.free rfl) rfl rfl (qt_loadS (n := 3) rfl rfl Try.underlying34 rfl (by kernel_rfl) rfl) ?_
                  refine g_q (.free rfl) rfl rfl (qt_call rfl Try.func24 rfl (by decide) rfl (fun w M => eqF_refl_any w _ _ _ ((mem_ownF (n := 17) M rfl).rd) ((mem_ownF (n := 5) M rfl).rd))) ?_
                  refine g_v (.free rfl) rfl rfl (qt_not rfl rfl) ?_
                  refine g_v (.free rfl) rfl rfl (qt_move rfl rfl) ?_
                  refine g_v (.held _ _ _ rfl rfl rfl) rfl rfl (qt_move rfl rfl) ?_
                  refine g_v (.held _ _ _ rfl rfl rfl) rfl rfl (qt_move rfl rfl) ?_
                  refine g_v (.held _ _ _ rfl rfl rfl) rfl rfl (qt_neq_f rfl rfl rfl (fun h => h rfl)) ?_
                  refine g_v (.free rfl) rfl rfl (qt_pick_f rfl rfl rfl) ?_
                  refine g_nil ?_
                  refine gk_then (hK378 _ _ ?_)
                  refine gc_cond_f rfl ?_
                  refine gc_skip ?_
                  refine gk_then (hK377 _ _ ?_)
                  refine gc_seq fun K379 hK379 => ?_
                  refine gc_region ?_
                  refine g_v (.free rfl) rfl rfl (qt_assign rfl rfl) ?_
                  refine g_nil ?_
                  refine gk_then (hK379 _ _ ?_)
                  refine gc_seq fun K380 hK380 => ?_
                  refine gc_region ?_
                  refine g_v (.free rfl) rfl rfl (qt_loadS (n := 11) rfl rfl Try.underlying34 rfl (by kernel_rfl) rfl) ?_
                  refine g_v (.free rfl) rfl rfl (qt_move rfl rfl) ?_
                  refine g_q (.free rfl) rfl rfl (qt_call rfl Try.func42 rfl (by decide) rfl (fun w M => heldF_any w _ _ _ ((mem_ownF (n := 10) M rfl).rd) (by first | assumption | omega) (by first | assumption | omega))) ?_
                  refine g_v (.free rfl) rfl rfl (qt_assign rfl rfl) ?_
                  refine g_nil ?_
                  refine gk_then (hK380 _ _ ?_)
                  refine gc_seq fun K381 hK381 => ?_
                  refine gc_seq fun K382 hK382 => ?_
                  refine gc_region ?_
                  refine g_v (.free rfl) rfl rfl (qt_move rfl rfl) ?_
                  refine g_v (.free rfl) rfl rfl (qt_lss rfl rfl rfl) ?_
                  refine g_nil ?_
                  refine gk_then (hK382 _ _ ?_)
                  refine gc_cond rfl (fun hc30 => ?_) (fun hc30 => ?_)
                  · try simp only [decide_eq_true_eq, decide_eq_false_iff_not, Bool.not_eq_true', Bool.not_eq_false', Bool.not_eq_eq_eq_not, Bool.not_true, Bool.not_false, ne_eq, Decidable.not_not, Classical.not_not] at hc30
                    first | (exfalso; omega) | exact absurd rfl hc30 | (simp at hc30)
                  · try simp only [decide_eq_true_eq, decide_eq_false_iff_not, Bool.not_eq_true', Bool.not_eq_false', Bool.not_eq_eq_eq_not, Bool.not_true, Bool.not_false, ne_eq, Decidable.not_not, Classical.not_not] at hc30
                    refine gc_skip ?_
                    refine gk_then (hK381 _ _ ?_)
                    refine gc_seq fun K383 hK383 => ?_
                    refine gc_seq fun K384 hK384 => ?_
                    refine gc_region ?_
                    refine g_v (.free rfl) rfl rfl (qt_move rfl rfl) ?_
                    refine g_v (.free rfl) rfl rfl (qt_move rfl rfl) ?_
                    refine g_v (.free rfl) rfl rfl (qt_neq rfl rfl rfl) ?_
                    refine g_nil ?_
                    refine gk_then (hK384 _ _ ?_)
                    refine gc_cond rfl (fun hc31 => ?_) (fun hc31 => ?_)
                    · try simp only [decide_eq_true_eq, decide_eq_false_iff_not, Bool.not_eq_true', Bool.not_eq_false', Bool.not_eq_eq_eq_not, Bool.not_true, Bool.not_false, ne_eq, Decidable.not_not, Classical.not_not] at hc31
                      first | (exfalso; omega) | exact absurd rfl hc31 | (simp at hc31)
                    · try simp only [decide_eq_true_eq, decide_eq_false_iff_not, Bool.not_eq_true', Bool.not_eq_false', Bool.not_eq_eq_eq_not, Bool.not_true, Bool.not_false, ne_eq, Decidable.not_not, Classical.not_not] at hc31
                      refine gc_skip ?_
                      refine gk_then (hK383 _ _ ?_)
                      refine gc_seq fun K385 hK385 => ?_
                      refine gc_region ?_
                      refine g_v (.free rfl) rfl rfl (qt_assign rfl rfl) ?_
                      refine g_nil ?_
                      refine gk_then (hK385 _ _ ?_)
                      refine gc_ret ?_
                      refine ret_1 rfl rfl  (fun w M => ?_)
                      exact ⟨rfl, M.1⟩
      · refine go_alloc (z := (.agg #[.int .i64 0, .slice none 0 0, .slice none 0 0, .slice none 0 0, .slice none 0 0, .int .i64 0, .slice none 0 0, .slice none 0 0, .slice none 0 0, .slice none 0 0, .slice none 0 0, .slice none 0 0])) (cs := [.int .i64 0, .slice none 0 0, .slice none 0 0, .slice none 0 0, .slice none 0 0, .int .i64 0, .slice none 0 0, .slice none 0 0, .slice none 0 0, .slice none 0 0, .slice none 0 0, .slice none 0 0]) rfl rfl rfl (fun w => by kernel_rfl) rfl ?_
        intro B386
        refine hK14 _ _ (fun w M => (mem_take 2 M :)) ?_
        refine ga_op 1 (by kernel_rfl) rfl (.free rfl) fun K389 hK389 => ?_
        refine go_callFn1 rfl rfl rfl Try.func22 rfl (by decide) rfl (fun w M => toF_any w _ _ (mem_rdF M R0)) ?_
        intro fx1_388 fk1_388 fx2_388 fk2_388 fx3_388 fk3_388 fx4_388 fk4_388 fx5_388 fk5_388 fx6_388 fk6_388 fx7_388 fk7_388 fx8_388 fk8_388 fx9_388 fk9_388 fx10_388 fk10_388
        refine hK389 _ _ (fun w M => (mem_take 2 M :)) ?_
        refine ga_op 3 (by kernel_rfl) rfl (.free rfl) fun K391 hK391 => ?_
        refine go_callFn1 rfl rfl rfl Try.func22 rfl (by decide) rfl (fun w M => toF_any w _ _ (mem_rdF M R1)) ?_
        intro fx1_390 fk1_390 fx2_390 fk2_390 fx3_390 fk3_390 fx4_390 fk4_390 fx5_390 fk5_390 fx6_390 fk6_390 fx7_390 fk7_390 fx8_390 fk8_390 fx9_390 fk9_390 fx10_390 fk10_390
        refine hK391 _ _ (fun w M => (mem_take 2 M :)) ?_
        refine ga_op 4 (by kernel_rfl) rfl (.free rfl) fun K393 hK393 => ?_
        refine go_callFI1 rfl rfl rfl Try.func40 rfl (by decide) rfl (fun w M => hspec w _ _ ((mem_ownF (n := 3) M rfl).rd) ((mem_ownF (n := 4) M rfl).rd)) ?_
        intro fx1_392 fk1_392 fx2_392 fk2_392 fx3_392 fk3_392 fx4_392 fk4_392 fx5_392 fk5_392 fx6_392 fk6_392 fx7_392 fk7_392 fx8_392 fk8_392 fx9_392 fk9_392 fx10_392 fk10_392
        refine hK393 _ _ (fun w M => (mem_take 2 M :)) ?_
        refine ga_v 5 rfl (by kernel_rfl) (by kernel_rfl) (by kernel_rfl) (.free rfl) rfl rfl (qt_move rfl rfl) (fun _ _ _ h => h) ?_
        refine ga_v 6 rfl (by kernel_rfl) (by kernel_rfl) (by kernel_rfl) (.free rfl) rfl rfl (qt_extract rfl rfl rfl) (fun _ _ _ h => h) ?_
        refine ga_v 7 rfl (by kernel_rfl) (by kernel_rfl) (by kernel_rfl) (.free rfl) rfl rfl (qt_extract rfl rfl rfl) (fun _ _ _ h => h) ?_
        refine ga_op 9 (by kernel_rfl) rfl (.free rfl) fun K394 hK394 => ?_
        refine go_storeS (n := 2) rfl rfl rfl rfl (by kernel_rfl) rfl rfl rfl ?_
        refine hK394 _ _ (fun w M => (mem_take 2 M :)) ?_
        refine ga_v 10 rfl (by kernel_rfl) (by kernel_rfl) (by kernel_rfl) (.free rfl) rfl rfl (qt_assign rfl rfl) (fun _ _ _ h => h) ?_
        refine ga_done (by kernel_rfl) ?_
        refine gk_then (hK13 _ _ ?_)
        refine gc_seq fun K395 hK395 => ?_
        refine gc_region ?_
        refine g_v (.free rfl) rfl rfl (qt_loadS (n := 0) rfl rfl Try.underlying27 rfl (by kernel_rfl) rfl) ?_
        refine g_op (.free rfl) fun K397 hK397 => ?_
        refine go_callFn1 rfl rfl rfl Try.func22 rfl (by decide) rfl (fun w M => toF_any w _ _ (mem_rdF M R0)) ?_
        intro fx1_396 fk1_396 fx2_396 fk2_396 fx3_396 fk3_396 fx4_396 fk4_396 fx5_396 fk5_396 fx6_396 fk6_396 fx7_396 fk7_396 fx8_396 fk8_396 fx9_396 fk9_396 fx10_396 fk10_396
        refine hK397 _ _ ?_
        refine g_op (.free rfl) fun K399 hK399 => ?_
        refine go_alloc (z := (.agg #[.int .i64 0, .slice none 0 0, .slice none 0 0, .slice none 0 0, .slice none 0 0, .int .i64 0, .slice none 0 0, .slice none 0 0, .slice none 0 0, .slice none 0 0, .slice none 0 0, .slice none 0 0])) (cs := [.int .i64 0, .slice none 0 0, .slice none 0 0, .slice none 0 0, .slice none 0 0, .int .i64 0, .slice none 0 0, .slice none 0 0, .slice none 0 0, .slice none 0 0, .slice none 0 0, .slice none 0 0]) rfl rfl rfl (fun w => by kernel_rfl) rfl ?_
        intro B398
        refine hK399 _ _ ?_
        refine g_op (.free rfl) fun K400 hK400 => ?_
        refine go_storeS (n := 7) rfl rfl rfl rfl (by kernel_rfl) rfl rfl rfl ?_
        refine hK400 _ _ ?_
        refine g_nil ?_
        refine gk_then (hK395 _ _ ?_)
        refine gc_seq fun K401 hK401 => ?_
        refine gc_region ?_
        refine g_v (.free rfl) rfl rfl (qt_loadS (n := 1) rfl rfl Try.underlying27 rfl (by kernel_rfl) rfl) ?_
        refine g_op (.free rfl) fun K403 hK403 => ?_
        refine go_callFn1 rfl rfl rfl Try.func22 rfl (by decide) rfl (fun w M => toF_any w _ _ (mem_rdF M R1)) ?_
        intro fx1_402 fk1_402 fx2_402 fk2_402 fx3_402 fk3_402 fx4_402 fk4_402 fx5_402 fk5_402 fx6_402 fk6_402 fx7_402 fk7_402 fx8_402 fk8_402 fx9_402 fk9_402 fx10_402 fk10_402
        refine hK403 _ _ ?_
        refine g_op (.free rfl) fun K405 hK405 => ?_
        refine go_alloc (z := (.agg #[.int .i64 0, .slice none 0 0, .slice none 0 0, .slice none 0 0, .slice none 0 0, .int .i64 0, .slice none 0 0, .slice none 0 0, .slice none 0 0, .slice none 0 0, .slice none 0 0, .slice none 0 0])) (cs := [.int .i64 0, .slice none 0 0, .slice none 0 0, .slice none 0 0, .slice none 0 0, .int .i64 0, .slice none 0 0, .slice none 0 0, .slice none 0 0, .slice none 0 0, .slice none 0 0, .slice none 0 0]) rfl rfl rfl (fun w => by kernel_rfl) rfl ?_
        intro B404
        refine hK405 _ _ ?_
        refine g_op (.free rfl) fun K406 hK406 => ?_
        refine go_storeS (n := 9) rfl rfl rfl rfl (by kernel_rfl) rfl rfl rfl ?_
        refine hK406 _ _ ?_
        refine g_nil ?_
        refine gk_then (hK401 _ _ ?_)
        refine gc_seq fun K407 hK407 => ?_
        refine gc_region ?_
        refine g_v (.free rfl) rfl rfl (qt_loadS (n := 7) rfl rfl Try.underlying34 rfl (by kernel_rfl) rfl) ?_
        refine g_v (.free rfl) rfl rfl (qt_loadS (n := 9) rfl rfl Try.underlying34 rfl (by kernel_rfl) rfl) ?_
        refine g_op (.free rfl) fun K409 hK409 => ?_
        refine go_callFI1 rfl rfl rfl Try.func41 rfl (by decide) rfl (fun w M => himpl w _ _ ((mem_ownF (n := 6) M rfl).rd) ((mem_ownF (n := 8) M rfl).rd)) ?_
        intro fx1_408 fk1_408 fx2_408 fk2_408 fx3_408 fk3_408 fx4_408 fk4_408 fx5_408 fk5_408 fx6_408 fk6_408 fx7_408 fk7_408 fx8_408 fk8_408 fx9_408 fk9_408 fx10_408 fk10_408
        refine hK409 _ _ ?_
        refine g_v (.free rfl) rfl rfl (qt_move rfl rfl) ?_
        refine g_v (.free rfl) rfl rfl (qt_extract rfl rfl rfl) ?_
        refine g_v (.free rfl) rfl rfl (qt_extract rfl rfl rfl) ?_
        refine g_op (.free rfl) fun K411 hK411 => ?_
        refine go_alloc (z := (.agg #[.int .i64 0, .slice none 0 0, .slice none 0 0, .slice none 0 0, .slice none 0 0, .int .i64 0, .slice none 0 0, .slice none 0 0, .slice none 0 0, .slice none 0 0, .slice none 0 0, .slice none 0 0])) (cs := [.int .i64 0, .slice none 0 0, .slice none 0 0, .slice none 0 0, .slice none 0 0, .int .i64 0, .slice none 0 0, .slice none 0 0, .slice none 0 0, .slice none 0 0, .slice none 0 0, .slice none 0 0]) rfl rfl rfl (fun w => by kernel_rfl) rfl ?_
        intro B410
        refine hK411 _ _ ?_
        refine g_op (.free rfl) fun K412 hK412 => ?_
        refine go_storeS (n := 11) rfl rfl rfl rfl (by kernel_rfl) rfl rfl rfl ?_
        refine hK412 _ _ ?_
        refine g_v (.free rfl) rfl rfl (qt_assign rfl rfl) ?_
        refine g_nil ?_
        refine gk_then (hK407 _ _ ?_)
        refine gc_seq fun K413 hK413 => ?_
        refine gc_seq fun K414 hK414 => ?_
        refine gc_region ?_
        refine g_v (.free rfl) rfl rfl (qt_loadS (n := 11) rfl rfl Try.underlying34 rfl (by kernel_rfl) rfl) ?_
        refine g_v (.free rfl) rfl rfl (qt_loadS (n := 2) rfl rfl Try.underlying34 rfl (by kernel_rfl) rfl) ?_
        refine g_q (.free rfl) rfl rfl (qt_call rfl Try.func24 rfl (by decide) rfl (fun w M => eqF_refl_any w _ _ _ ((mem_ownF (n := 10) M rfl).rd) ((mem_ownF (n := 5) M rfl).rd))) ?_
        refine g_v (.free rfl) rfl rfl (qt_not rfl rfl) ?_
        refine g_v (.free rfl) rfl rfl (qt_move rfl rfl) ?_
        refine g_v (.held _ _ _ rfl rfl rfl) rfl rfl (qt_move rfl rfl) ?_
        refine g_v (.held _ _ _ rfl rfl rfl) rfl rfl (qt_move rfl rfl) ?_
        refine g_v (.held _ _ _ rfl rfl rfl) rfl rfl (qt_neq_f rfl rfl rfl (fun h => h rfl)) ?_
        refine g_v (.free rfl) rfl rfl (qt_pick_f rfl rfl rfl) ?_
        refine g_nil ?_
        refine gk_then (hK414 _ _ ?_)
        refine gc_cond_f rfl ?_
        refine gc_skip ?_
        refine gk_then (hK413 _ _ ?_)
        refine gc_seq fun K415 hK415 => ?_
        refine gc_seq fun K416 hK416 => ?_
        try simp only [List.nil_append, List.cons_append, List.append_assoc, List.set_cons_succ, List.set_cons_zero]
        refine ga_start _ (fun w M => M) ?_
        refine ga_v 0 rfl (by kernel_rfl) (by kernel_rfl) (by kernel_rfl) (.free rfl) rfl rfl (qt_loadS (n := 7) rfl rfl Try.underlying34 rfl (by kernel_rfl) rfl) (fun _ _ _ h => h) ?_
        refine ga_v 1 rfl (by kernel_rfl) (by kernel_rfl) (by kernel_rfl) (.free rfl) rfl rfl (qt_loadS (n := 0) rfl rfl Try.underlying27 rfl (by kernel_rfl) rfl) (fun _ _ _ h => h) ?_
        refine ga_op 2 (by kernel_rfl) rfl (.free rfl) fun K418 hK418 => ?_
        refine go_callFn1 rfl rfl rfl Try.func22 rfl (by decide) rfl (fun w M => toF_any w _ _ (mem_rdF M R0)) ?_
        intro fx1_417 fk1_417 fx2_417 fk2_417 fx3_417 fk3_417 fx4_417 fk4_417 fx5_417 fk5_417 fx6_417 fk6_417 fx7_417 fk7_417 fx8_417 fk8_417 fx9_417 fk9_417 fx10_417 fk10_417
        refine hK418 _ _ (fun w M => (mem_take 12 M :)) ?_
        refine ga_op 3 (by kernel_rfl) rfl (.free rfl) fun K419 hK419 => ?_
        refine go_q rfl rfl (qt_call rfl Try.func24 rfl (by decide) rfl (fun w M => eqF_refl_any w _ _ _ ((mem_ownF (n := 6) M rfl).rd) ((mem_ownF (n := 12) M rfl).rd))) ?_
        refine hK419 _ _ (fun w M => (mem_take 12 M :)) ?_
        refine ga_v 4 rfl (by kernel_rfl) (by kernel_rfl) (by kernel_rfl) (.free rfl) rfl rfl (qt_not rfl rfl) (fun _ _ _ h => h) ?_
        refine ga_done (by kernel_rfl) ?_
        refine gk_then (hK416 _ _ ?_)
        refine gc_cond_f rfl ?_
        refine gc_skip ?_
        refine gk_then (hK415 _ _ ?_)
        refine gc_seq fun K420 hK420 => ?_
        refine gc_seq fun K421 hK421 => ?_
        try simp only [List.nil_append, List.cons_append, List.append_assoc, List.set_cons_succ, List.set_cons_zero]
        refine ga_start _ (fun w M => M) ?_
        refine ga_v 0 rfl (by kernel_rfl) (by kernel_rfl) (by kernel_rfl) (.free rfl) rfl rfl (qt_loadS (n := 9) rfl rfl Try.underlying34 rfl (by kernel_rfl) rfl) (fun _ _ _ h => h) ?_
        refine ga_v 1 rfl (by kernel_rfl) (by kernel_rfl) (by kernel_rfl) (.free rfl) rfl rfl (qt_loadS (n := 1) rfl rfl Try.underlying27 rfl (by kernel_rfl) rfl) (fun _ _ _ h => h) ?_
        refine ga_op 2 (by kernel_rfl) rfl (.free rfl) fun K423 hK423 => ?_
        refine go_callFn1 rfl rfl rfl Try.func22 rfl (by decide) rfl (fun w M => toF_any w _ _ (mem_rdF M R1)) ?_
        intro fx1_422 fk1_422 fx2_422 fk2_422 fx3_422 fk3_422 fx4_422 fk4_422 fx5_422 fk5_422 fx6_422 fk6_422 fx7_422 fk7_422 fx8_422 fk8_422 fx9_422 fk9_422 fx10_422 fk10_422
        refine hK423 _ _ (fun w M => (mem_take 13 M :)) ?_
        refine ga_op 3 (by kernel_rfl) rfl (.free rfl) fun K424 hK424 => ?_
        refine go_q rfl rfl (qt_call rfl Try.func24 rfl (by decide) rfl (fun w M => eqF_refl_any w _ _ _ ((mem_ownF (n := 8) M rfl).rd) ((mem_ownF (n := 13) M rfl).rd))) ?_
        refine hK424 _ _ (fun w M => (mem_take 13 M :)) ?_
        refine ga_v 4 rfl (by kernel_rfl) (by kernel_rfl) (by kernel_rfl) (.free rfl) rfl rfl (qt_not rfl rfl) (fun _ _ _ h => h) ?_
        refine ga_done (by kernel_rfl) ?_
        refine gk_then (hK421 _ _ ?_)
        refine gc_cond_f rfl ?_
        refine gc_skip ?_
        refine gk_then (hK420 _ _ ?_)
        refine gc_seq fun K425 hK425 => ?_
        refine gc_region ?_
        refine g_v (.free rfl) rfl rfl (qt_assign rfl rfl) ?_
        refine g_nil ?_
        refine gk_then (hK425 _ _ ?_)
        refine gc_seq fun K426 hK426 => ?_
        refine gc_region ?_
        refine g_v (.free rfl) rfl rfl (qt_loadS (n := 7) rfl rfl Try.underlying34 rfl (by kernel_rfl) rfl) ?_
        refine g_v (.free rfl) rfl rfl (qt_move rfl rfl) ?_
        refine g_op (.free rfl) fun K427 hK427 => ?_
        refine go_one (n := 6) rfl rfl rfl Try.func25 rfl (by decide) rfl rfl (fun R w M => markF1_any _ w R _ _ _ _ _ _ _ _ _ _ _ _ (by omega) (by omega) M) ?_
        refine hK427 _ _ ?_
        refine g_v (.free rfl) rfl rfl (qt_assign rfl rfl) ?_
        refine g_nil ?_
        refine gk_then (hK426 _ _ ?_)
        refine gc_seq fun K428 hK428 => ?_
        refine gc_region ?_
        refine g_v (.free rfl) rfl rfl (qt_loadS (n := 9) rfl rfl Try.underlying34 rfl (by kernel_rfl) rfl) ?_
        refine g_v (.free rfl) rfl rfl (qt_move rfl rfl) ?_
        refine g_op (.free rfl) fun K429 hK429 => ?_
        refine go_one (n := 8) rfl rfl rfl Try.func25 rfl (by decide) rfl rfl (fun R w M => markF1_any _ w R _ _ _ _ _ _ _ _ _ _ _ _ (by omega) (by omega) M) ?_
        refine hK429 _ _ ?_
        refine g_v (.free rfl) rfl rfl (qt_assign rfl rfl) ?_
        refine g_nil ?_
        refine gk_then (hK428 _ _ ?_)
        refine gc_seq fun K430 hK430 => ?_
        refine gc_seq fun K431 hK431 => ?_
        refine gc_region ?_
        refine g_v (.free rfl) rfl rfl (qt_move rfl rfl) ?_
        refine g_v (.free rfl) rfl rfl (qt_lss rfl rfl rfl) ?_
        refine g_splitv (.free rfl) rfl rfl (qt_move rfl rfl) (fun hs21_2 => ?_) (fun hs21_2 => ?_)
        · try simp only [decide_eq_true_eq, decide_eq_false_iff_not, Bool.not_eq_true', Bool.not_eq_false', Bool.not_eq_eq_eq_not, Bool.not_true, Bool.not_false, ne_eq, Decidable.not_not, Classical.not_not] at hs21_2
          first | (exfalso; omega) | exact absurd rfl hs21_2 | (simp at hs21_2)
        · try simp only [decide_eq_true_eq, decide_eq_false_iff_not, Bool.not_eq_true', Bool.not_eq_false', Bool.not_eq_eq_eq_not, Bool.not_true, Bool.not_false, ne_eq, Decidable.not_not, Classical.not_not] at hs21_2
          refine g_v (.held _ _ _ rfl rfl rfl) rfl rfl (qt_loadS (n := 11) rfl rfl Try.underlying34 rfl (by kernel_rfl) rfl) ?_
          refine g_v (.held _ _ _ rfl rfl rfl) rfl rfl (qt_loadS (n := 2) rfl rfl Try.underlying34 rfl (by kernel_rfl) rfl) ?_
          refine g_q (.held _ _ _ rfl rfl rfl) rfl rfl (qt_call rfl Try.func24 rfl (by decide) rfl (fun w M => eqF_refl_any w _ _ _ ((mem_ownF (n := 10) M rfl).rd) ((mem_ownF (n := 5) M rfl).rd))) ?_
          refine g_v (.held _ _ _ rfl rfl rfl) rfl rfl (qt_not rfl rfl) ?_
          refine g_v (.free rfl) rfl rfl (qt_pick_f rfl rfl rfl) ?_
          refine g_v (.free rfl) rfl rfl (qt_move rfl rfl) ?_
          refine g_v (.held _ _ _ rfl rfl rfl) rfl rfl (qt_move rfl rfl) ?_
          refine g_v (.held _ _ _ rfl rfl rfl) rfl rfl (qt_move rfl rfl) ?_
          refine g_v (.held _ _ _ rfl rfl rfl) rfl rfl (qt_neq_f rfl rfl rfl (fun h => h rfl)) ?_
          refine g_v (.free rfl) rfl rfl (qt_pick_f rfl rfl rfl) ?_
          refine g_nil ?_
          refine gk_then (hK431 _ _ ?_)
          refine gc_cond_f rfl ?_
          refine gc_skip ?_
          refine gk_then (hK430 _ _ ?_)
          refine gc_seq fun K432 hK432 => ?_
          refine gc_region ?_
          refine g_v (.free rfl) rfl rfl (qt_assign rfl rfl) ?_
          refine g_nil ?_
          refine gk_then (hK432 _ _ ?_)
          refine gc_seq fun K433 hK433 => ?_
          refine gc_region ?_
          refine g_v (.free rfl) rfl rfl (qt_loadS (n := 11) rfl rfl Try.underlying34 rfl (by kernel_rfl) rfl) ?_
          refine g_v (.free rfl) rfl rfl (qt_move rfl rfl) ?_
          refine g_op (.free rfl) fun K434 hK434 => ?_
          refine go_one (n := 10) rfl rfl rfl Try.func25 rfl (by decide) rfl rfl (fun R w M => markF1_any _ w R _ _ _ _ _ _ _ _ _ _ _ _ (by omega) (by omega) M) ?_
          refine hK434 _ _ ?_
          refine g_v (.free rfl) rfl rfl (qt_assign rfl rfl) ?_
          refine g_nil ?_
          refine gk_then (hK433 _ _ ?_)
          refine gc_seq fun K435 hK435 => ?_
          refine gc_region ?_
          refine g_v (.free rfl) rfl rfl (qt_assign rfl rfl) ?_
          refine g_nil ?_
          refine gk_then (hK435 _ _ ?_)
          refine gc_seq fun K436 hK436 => ?_
          refine gc_region ?_
          refine g_v (.free rfl) rfl rfl (qt_loadS (n := 11) rfl rfl Try.underlying34 rfl (by kernel_rfl) rfl) ?_
          refine g_v (.free rfl) rfl rfl (qt_move rfl rfl) ?_
          refine g_q (.free rfl) rfl rfl (qt_call rfl Try.func42 rfl (by decide) rfl (fun w M => heldF_any w _ _ _ ((mem_ownF (n := 10) M rfl).rd) (by first | assumption | omega) (by first | assumption | omega))) ?_
          refine g_v (.free rfl) rfl rfl (qt_assign rfl rfl) ?_
          refine g_nil ?_
          refine gk_then (hK436 _ _ ?_)
          refine gc_seq fun K437 hK437 => ?_
          refine gc_seq fun K438 hK438 => ?_
          refine gc_region ?_
          refine g_v (.free rfl) rfl rfl (qt_move rfl rfl) ?_
          refine g_v (.free rfl) rfl rfl (qt_lss rfl rfl rfl) ?_
          refine g_nil ?_
          refine gk_then (hK438 _ _ ?_)
          refine gc_cond rfl (fun hc32 => ?_) (fun hc32 => ?_)
          · try simp only [decide_eq_true_eq, decide_eq_false_iff_not, Bool.not_eq_true', Bool.not_eq_false', Bool.not_eq_eq_eq_not, Bool.not_true, Bool.not_false, ne_eq, Decidable.not_not, Classical.not_not] at hc32
            first | (exfalso; omega) | exact absurd rfl hc32 | (simp at hc32)
          · try simp only [decide_eq_true_eq, decide_eq_false_iff_not, Bool.not_eq_true', Bool.not_eq_false', Bool.not_eq_eq_eq_not, Bool.not_true, Bool.not_false, ne_eq, Decidable.not_not, Classical.not_not] at hc32
            refine gc_skip ?_
            refine gk_then (hK437 _ _ ?_)
            refine gc_seq fun K439 hK439 => ?_
            refine gc_seq fun K440 hK440 => ?_
            refine gc_region ?_
            refine g_v (.free rfl) rfl rfl (qt_move rfl rfl) ?_
            refine g_v (.free rfl) rfl rfl (qt_move rfl rfl) ?_
            refine g_v (.free rfl) rfl rfl (qt_neq rfl rfl rfl) ?_
            refine g_nil ?_
            refine gk_then (hK440 _ _ ?_)
            refine gc_cond rfl (fun hc33 => ?_) (fun hc33 => ?_)
            · try simp only [decide_eq_true_eq, decide_eq_false_iff_not, Bool.not_eq_true', Bool.not_eq_false', Bool.not_eq_eq_eq_not, Bool.not_true, Bool.not_false, ne_eq, Decidable.not_not, Classical.not_not] at hc33
              first | (exfalso; omega) | exact absurd rfl hc33 | (simp at hc33)
            · try simp only [decide_eq_true_eq, decide_eq_false_iff_not, Bool.not_eq_true', Bool.not_eq_false', Bool.not_eq_eq_eq_not, Bool.not_true, Bool.not_false, ne_eq, Decidable.not_not, Classical.not_not] at hc33
              refine gc_skip ?_
              refine gk_then (hK439 _ _ ?_)
              refine gc_seq fun K441 hK441 => ?_
              try simp only [List.nil_append, List.cons_append, List.append_assoc, List.set_cons_succ, List.set_cons_zero]
              refine ga_start _ (fun w M => M) ?_
              refine ga_v 0 rfl (by kernel_rfl) (by kernel_rfl) (by kernel_rfl) (.free rfl) rfl rfl (qt_loadS (n := 0) rfl rfl Try.underlying27 rfl (by kernel_rfl) rfl) (fun _ _ _ h => h) ?_
              refine ga_v 2 rfl (by kernel_rfl) (by kernel_rfl) (by kernel_rfl) (.free rfl) rfl rfl (qt_loadS (n := 1) rfl rfl Try.underlying27 rfl (by kernel_rfl) rfl) (fun _ _ _ h => h) ?_
              refine ga_two 1 8 (by kernel_rfl) rfl rfl (.free rfl) (.free rfl) (fun K442 hK442 => ?_) (fun K442 hK442 => ?_)
              · refine go_callFn1 rfl rfl rfl Try.func22 rfl (by decide) rfl (fun w M => toF_any w _ _ (mem_rdF M R0)) ?_
                intro fx1_443 fk1_443 fx2_443 fk2_443 fx3_443 fk3_443 fx4_443 fk4_443 fx5_443 fk5_443 fx6_443 fk6_443 fx7_443 fk7_443 fx8_443 fk8_443 fx9_443 fk9_443 fx10_443 fk10_443
                refine hK442 _ _ (fun w M => (mem_take 14 M :)) ?_
                refine ga_two 3 8 (by kernel_rfl) rfl rfl (.free rfl) (.free rfl) (fun K445 hK445 => ?_) (fun K445 hK445 => ?_)
                · refine go_callFn1 rfl rfl rfl Try.func22 rfl (by decide) rfl (fun w M => toF_any w _ _ (mem_rdF M R1)) ?_
                  intro fx1_446 fk1_446 fx2_446 fk2_446 fx3_446 fk3_446 fx4_446 fk4_446 fx5_446 fk5_446 fx6_446 fk6_446 fx7_446 fk7_446 fx8_446 fk8_446 fx9_446 fk9_446 fx10_446 fk10_446
                  refine hK445 _ _ (fun w M => (mem_take 14 M :)) ?_
                  refine ga_two 4 8 (by kernel_rfl) rfl rfl (.free rfl) (.free rfl) (fun K448 hK448 => ?_) (fun K448 hK448 => ?_)
                  · refine go_callFI1 rfl rfl rfl Try.func41 rfl (by decide) rfl (fun w M => himpl w _ _ ((mem_ownF (n := 14) M rfl).rd) ((mem_ownF (n := 15) M rfl).rd)) ?_
                    intro fx1_449 fk1_449 fx2_449 fk2_449 fx3_449 fk3_449 fx4_449 fk4_449 fx5_449 fk5_449 fx6_449 fk6_449 fx7_449 fk7_449 fx8_449 fk8_449 fx9_449 fk9_449 fx10_449 fk10_449
                    refine hK448 _ _ (fun w M => (mem_take 14 M :)) ?_
                    refine ga_v 5 rfl (by kernel_rfl) (by kernel_rfl) (by kernel_rfl) (.free rfl) rfl rfl (qt_move rfl rfl) (fun _ _ _ h => h) ?_
                    refine ga_v 6 rfl (by kernel_rfl) (by kernel_rfl) (by kernel_rfl) (.free rfl) rfl rfl (qt_extract rfl rfl rfl) (fun _ _ _ h => h) ?_
                    refine ga_v 7 rfl (by kernel_rfl) (by kernel_rfl) (by kernel_rfl) (.free rfl) rfl rfl (qt_extract rfl rfl rfl) (fun _ _ _ h => h) ?_
                    refine ga_op 8 (by kernel_rfl) rfl (.free rfl) fun K452 hK452 => ?_
                    refine go_alloc (z := (.agg #[.int .i64 0, .slice none 0 0, .slice none 0 0, .slice none 0 0, .slice none 0 0, .int .i64 0, .slice none 0 0, .slice none 0 0, .slice none 0 0, .slice none 0 0, .slice none 0 0, .slice none 0 0])) (cs := [.int .i64 0, .slice none 0 0, .slice none 0 0, .slice none 0 0, .slice none 0 0, .int .i64 0, .slice none 0 0, .slice none 0 0, .slice none 0 0, .slice none 0 0, .slice none 0 0, .slice none 0 0]) rfl rfl rfl (fun w => by kernel_rfl) rfl ?_
                    intro B451
                    refine hK452 _ _ (fun w M => (mem_take 14 M :)) ?_
                    refine ga_op 9 (by kernel_rfl) rfl (.free rfl) fun K453 hK453 => ?_
                    refine go_storeS (n := 17) rfl rfl rfl rfl (by kernel_rfl) rfl rfl rfl ?_
                    refine hK453 _ _ (fun w M => (mem_take 14 M :)) ?_
                    refine ga_v 10 rfl (by kernel_rfl) (by kernel_rfl) (by kernel_rfl) (.free rfl) rfl rfl (qt_assign rfl rfl) (fun _ _ _ h => h) ?_
                    refine ga_done (by kernel_rfl) ?_
                    refine gk_then (hK441 _ _ ?_)
                    refine gc_seq fun K454 hK454 => ?_
                    refine gc_seq fun K455 hK455 => ?_
                    refine gc_region ?_
                    refine g_v (.free rfl) rfl rfl (qt_loadS (n := 17) rfl rfl Try.underlying34 rfl (by kernel_rfl) rfl) ?_
                    refine g_v (.free rfl) rfl rfl (qt_loadS (n := 2) rfl rfl Try.underlying34 rfl (by kernel_rfl) rfl) ?_
                    refine g_q (.free rfl) rfl rfl (qt_call rfl Try.func24 rfl (by decide) rfl (fun w M => eqF_refl_any w _ _ _ ((mem_ownF (n := 16) M rfl).rd) ((mem_ownF (n := 5) M rfl).rd))) ?_
                    refine g_v (.free rfl) rfl rfl (qt_not rfl rfl) ?_
                    refine g_v (.free rfl) rfl rfl (qt_move rfl rfl) ?_
                    refine g_v (.held _ _ _ rfl rfl rfl) rfl rfl (qt_move rfl rfl) ?_
                    refine g_v (.held _ _ _ rfl rfl rfl) rfl rfl (qt_move rfl rfl) ?_
                    refine g_v (.held _ _ _ rfl rfl rfl) rfl rfl (qt_neq_f rfl rfl rfl (fun h => h rfl)) ?_
                    refine g_v (.free rfl) rfl rfl (qt_pick_f rfl rfl rfl) ?_
                    refine g_nil ?_
                    refine gk_then (hK455 _ _ ?_)
                    refine gc_cond_f rfl ?_
                    refine gc_skip ?_
                    refine gk_then (hK454 _ _ ?_)
                    refine gc_seq fun K456 hK456 => ?_
                    refine gc_region ?_
                    refine g_v (.free rfl) rfl rfl (qt_assign rfl rfl) ?_
                    refine g_nil ?_
                    refine gk_then (hK456 _ _ ?_)
                    refine gc_seq fun K457 hK457 => ?_
                    refine gc_region ?_
                    refine g_v (.free rfl) rfl rfl (qt_loadS (n := 11) rfl rfl Try.underlying34 rfl (by kernel_rfl) rfl) ?_
                    refine g_v (.free rfl) rfl rfl (qt_move rfl rfl) ?_
                    refine g_q (.free rfl) rfl rfl (qt_call rfl Try.func42 rfl (by decide) rfl (fun w M => heldF_any w _ _ _ ((mem_ownF (n := 10) M rfl).rd) (by first | assumption | omega) (by first | assumption | omega))) ?_
                    refine g_v (.free rfl) rfl rfl (qt_assign rfl rfl) ?_
                    refine g_nil ?_
                    refine gk_then (hK457 _ _ ?_)
                    refine gc_seq fun K458 hK458 => ?_
                    refine gc_seq fun K459 hK459 => ?_
                    refine gc_region ?_
                    refine g_v (.free rfl) rfl rfl (qt_move rfl rfl) ?_
                    refine g_v (.free rfl) rfl rfl (qt_lss rfl rfl rfl) ?_
                    refine g_nil ?_
                    refine gk_then (hK459 _ _ ?_)
                    refine gc_cond rfl (fun hc34 => ?_) (fun hc34 => ?_)
                    · try simp only [decide_eq_true_eq, decide_eq_false_iff_not, Bool.not_eq_true', Bool.not_eq_false', Bool.not_eq_eq_eq_not, Bool.not_true, Bool.not_false, ne_eq, Decidable.not_not, Classical.not_not] at hc34
                      first | (exfalso; omega) | exact absurd rfl hc34 | (simp at hc34)
                    · try simp only [decide_eq_true_eq, decide_eq_false_iff_not, Bool.not_eq_true', Bool.not_eq_false', Bool.not_eq_eq_eq_not, Bool.not_true, Bool.not_false, ne_eq, Decidable.not_not, Classical.not_not] at hc34
                      refine gc_skip ?_
                      refine gk_then (hK458 _ _ ?_)
                      refine gc_seq fun K460 hK460 => ?_
                      refine gc_seq fun K461 hK461 => ?_
                      refine gc_region ?_
                      refine g_v (.free rfl) rfl rfl (qt_move rfl rfl) ?_
                      refine g_v (.free rfl) rfl rfl (qt_move rfl rfl) ?_
                      refine g_v (.free rfl) rfl rfl (qt_neq rfl rfl rfl) ?_
                      refine g_nil ?_
                      refine gk_then (hK461 _ _ ?_)
                      refine gc_cond rfl (fun hc35 => ?_) (fun hc35 => ?_)
                      · try simp only [decide_eq_true_eq, decide_eq_false_iff_not, Bool.not_eq_true', Bool.not_eq_false', Bool.not_eq_eq_eq_not, Bool.not_true, Bool.not_false, ne_eq, Decidable.not_not, Classical.not_not] at hc35
                        first | (exfalso; omega) | exact absurd rfl hc35 | (simp at hc35)
                      · try simp only [decide_eq_true_eq, decide_eq_false_iff_not, Bool.not_eq_true', Bool.not_eq_false', Bool.not_eq_eq_eq_not, Bool.not_true, Bool.not_false, ne_eq, Decidable.not_not, Classical.not_not] at hc35
                        refine gc_skip ?_
                        refine gk_then (hK460 _ _ ?_)
                        refine gc_seq fun K462 hK462 => ?_
                        refine gc_region ?_
                        refine g_v (.free rfl) rfl rfl (qt_assign rfl rfl) ?_
                        refine g_nil ?_
                        refine gk_then (hK462 _ _ ?_)
                        refine gc_ret ?_
                        refine ret_1 rfl rfl  (fun w M => ?_)
                        exact ⟨rfl, M.1⟩
                  · refine go_alloc (z := (.agg #[.int .i64 0, .slice none 0 0, .slice none 0 0, .slice none 0 0, .slice none 0 0, .int .i64 0, .slice none 0 0, .slice none 0 0, .slice none 0 0, .slice none 0 0, .slice none 0 0, .slice none 0 0])) (cs := [.int .i64 0, .slice none 0 0, .slice none 0 0, .slice none 0 0, .slice none 0 0, .int .i64 0, .slice none 0 0, .slice none 0 0, .slice none 0 0, .slice none 0 0, .slice none 0 0, .slice none 0 0]) rfl rfl rfl (fun w => by kernel_rfl) rfl ?_
                    intro B463
                    refine hK448 _ _ (fun w M => (mem_take 14 M :)) ?_
                    refine ga_op 4 (by kernel_rfl) rfl (.free rfl) fun K466 hK466 => ?_
                    refine go_callFI1 rfl rfl rfl Try.func41 rfl (by decide) rfl (fun w M => himpl w _ _ ((mem_ownF (n := 14) M rfl).rd) ((mem_ownF (n := 15) M rfl).rd)) ?_
                    intro fx1_465 fk1_465 fx2_465 fk2_465 fx3_465 fk3_465 fx4_465 fk4_465 fx5_465 fk5_465 fx6_465 fk6_465 fx7_465 fk7_465 fx8_465 fk8_465 fx9_465 fk9_465 fx10_465 fk10_465
                    refine hK466 _ _ (fun w M => (mem_take 14 M :)) ?_
                    refine ga_v 5 rfl (by kernel_rfl) (by kernel_rfl) (by kernel_rfl) (.free rfl) rfl rfl (qt_move rfl rfl) (fun _ _ _ h => h) ?_
                    refine ga_v 6 rfl (by kernel_rfl) (by kernel_rfl) (by kernel_rfl) (.free rfl) rfl rfl (qt_extract rfl rfl rfl) (fun _ _ _ h => h) ?_
                    refine ga_v 7 rfl (by kernel_rfl) (by kernel_rfl) (by kernel_rfl) (.free rfl) rfl rfl (qt_extract rfl rfl rfl) (fun _ _ _ h => h) ?_
                    refine ga_op 9 (by kernel_rfl) rfl (.free rfl) fun K467 hK467 => ?_
                    refine go_storeS (n := 16) rfl rfl rfl rfl (by kernel_rfl) rfl rfl rfl ?_
                    refine hK467 _ _ (fun w M => (mem_take 14 M :)) ?_
                    refine ga_v 10 rfl (by kernel_rfl) (by kernel_rfl) (by kernel_rfl) (.free rfl) rfl rfl (qt_assign rfl rfl) (fun _ _ _ h => h) ?_
                    refine ga_done (by kernel_rfl) ?_
                    refine gk_then (hK441 _ _ ?_)
                    refine gc_seq fun K468 hK468 => ?_
                    refine gc_seq fun K469 hK469 => ?_
                    refine gc_region ?_
                    refine g_v (.free rfl) rfl rfl (qt_loadS (n := 16) rfl rfl Try.underlying34 rfl (by kernel_rfl) rfl) ?_
                    refine g_v (.free rfl) rfl rfl (qt_loadS (n := 2) rfl rfl Try.underlying34 rfl (by kernel_rfl) rfl) ?_
                    refine g_q (.free rfl) rfl rfl (qt_call rfl Try.func24 rfl (by decide) rfl (fun w M => eqF_refl_any w _ _ _ ((mem_ownF (n := 17) M rfl).rd) ((mem_ownF (n := 5) M rfl).rd))) ?_
                    refine g_v (.free rfl) rfl rfl (qt_not rfl rfl) ?_
                    refine g_v (.free rfl) rfl rfl (qt_move rfl rfl) ?_
                    refine g_v (.held _ _ _ rfl rfl rfl) rfl rfl (qt_move rfl rfl) ?_
                    refine g_v (.held _ _ _ rfl rfl rfl) rfl rfl (qt_move rfl rfl) ?_
                    refine g_v (.held _ _ _ rfl rfl rfl) rfl rfl (qt_neq_f rfl rfl rfl (fun h => h rfl)) ?_
                    refine g_v (.free rfl) rfl rfl (qt_pick_f rfl rfl rfl) ?_
                    refine g_nil ?_
                    refine gk_then (hK469 _ _ ?_)
                    refine gc_cond_f rfl ?_
                    refine gc_skip ?_
                    refine gk_then (hK468 _ _ ?_)
                    refine gc_seq fun K470 hK470 => ?_
                    refine gc_region ?_
                    refine g_v (.free rfl) rfl rfl (qt_assign rfl rfl) ?_
                    refine g_nil ?_
                    refine gk_then (hK470 _ _ ?_)
                    refine gc_seq fun K471 hK471 => ?_
                    refine gc_region ?_
                    refine g_v (.free rfl) rfl rfl (qt_loadS (n := 11) rfl rfl Try.underlying34 rfl (by kernel_rfl) rfl) ?_
                    refine g_v (.free rfl) rfl rfl (qt_move rfl rfl) ?_
                    refine g_q (.free rfl) rfl rfl (qt_call rfl Try.func42 rfl (by decide) rfl (fun w M => heldF_any w _ _ _ ((mem_ownF (n := 10) M rfl).rd) (by first | assumption | omega) (by first | assumption | omega))) ?_
                    refine g_v (.free rfl) rfl rfl (qt_assign rfl rfl) ?_
                    refine g_nil ?_
                    refine gk_then (hK471 _ _ ?_)
                    refine gc_seq fun K472 hK472 => ?_
                    refine gc_seq fun K473 hK473 => ?_
                    refine gc_region ?_
                    refine g_v (.free rfl) rfl rfl (qt_move rfl rfl) ?_
                    refine g_v (.free rfl) rfl rfl (qt_lss rfl rfl rfl) ?_
                    refine g_nil ?_
                    refine gk_then (hK473 _ _ ?_)
                    refine gc_cond rfl (fun hc36 => ?_) (fun hc36 => ?_)
                    · try simp only [decide_eq_true_eq, decide_eq_false_iff_not, Bool.not_eq_true', Bool.not_eq_false', Bool.not_eq_eq_eq_not, Bool.not_true, Bool.not_false, ne_eq, Decidable.not_not, Classical.not_not] at hc36
                      first | (exfalso; omega) | exact absurd rfl hc36 | (simp at hc36)
                    · try simp only [decide_eq_true_eq, decide_eq_false_iff_not, Bool.not_eq_true', Bool.not_eq_false', Bool.not_eq_eq_eq_not, Bool.not_true, Bool.not_false, ne_eq, Decidable.not_not, Classical.not_not] at hc36
                      refine gc_skip ?_
                      refine gk_then (hK472 _ _ ?_)
                      refine gc_seq fun K474 hK474 => ?_
                      refine gc_seq fun K475 hK475 => ?_
                      refine gc_region ?_
                      refine g_v (.free rfl) rfl rfl (qt_move rfl rfl) ?_
                      refine g_v (.free rfl) rfl rfl (qt_move rfl rfl) ?_
                      refine g_v (.free rfl) rfl rfl (qt_neq rfl rfl rfl) ?_
                      refine g_nil ?_
                      refine gk_then (hK475 _ _ ?_)
                      refine gc_cond rfl (fun hc37 => ?_) (fun hc37 => ?_)
                      · try simp only [decide_eq_true_eq, decide_eq_false_iff_not, Bool.not_eq_true', Bool.not_eq_false', Bool.not_eq_eq_eq_not, Bool.not_true, Bool.not_false, ne_eq, Decidable.not_not, Classical.not_not] at hc37
                        first | (exfalso; omega) | exact absurd rfl hc37 | (simp at hc37)
                      · try simp only [decide_eq_true_eq, decide_eq_false_iff_not, Bool.not_eq_true', Bool.not_eq_false', Bool.not_eq_eq_eq_not, Bool.not_true, Bool.not_false, ne_eq, Decidable.not_not, Classical.not_not] at hc37
                        refine gc_skip ?_
                        refine gk_then (hK474 _ _ ?_)
                        refine gc_seq fun K476 hK476 => ?_
                        refine gc_region ?_
                        refine g_v (.free rfl) rfl rfl (qt_assign rfl rfl) ?_
                        refine g_nil ?_
                        refine gk_then (hK476 _ _ ?_)
                        refine gc_ret ?_
                        refine ret_1 rfl rfl  (fun w M => ?_)
                        exact ⟨rfl, M.1⟩
                · refine go_alloc (z := (.agg #[.int .i64 0, .slice none 0 0, .slice none 0 0, .slice none 0 0, .slice none 0 0, .int .i64 0, .slice none 0 0, .slice none 0 0, .slice none 0 0, .slice none 0 0, .slice none 0 0, .slice none 0 0])) (cs := [.int .i64 0, .slice none 0 0, .slice none 0 0, .slice none 0 0, .slice none 0 0, .int .i64 0, .slice none 0 0, .slice none 0 0, .slice none 0 0, .slice none 0 0, .slice none 0 0, .slice none 0 0]) rfl rfl rfl (fun w => by kernel_rfl) rfl ?_
                  intro B477
                  refine hK445 _ _ (fun w M => (mem_take 14 M :)) ?_
                  refine ga_op 3 (by kernel_rfl) rfl (.free rfl) fun K480 hK480 => ?_
                  refine go_callFn1 rfl rfl rfl Try.func22 rfl (by decide) rfl (fun w M => toF_any w _ _ (mem_rdF M R1)) ?_
                  intro fx1_479 fk1_479 fx2_479 fk2_479 fx3_479 fk3_479 fx4_479 fk4_479 fx5_479 fk5_479 fx6_479 fk6_479 fx7_479 fk7_479 fx8_479 fk8_479 fx9_479 fk9_479 fx10_479 fk10_479
                  refine hK480 _ _ (fun w M => (mem_take 14 M :)) ?_
                  refine ga_op 4 (by kernel_rfl) rfl (.free rfl) fun K482 hK482 => ?_
                  refine go_callFI1 rfl rfl rfl Try.func41 rfl (by decide) rfl (fun w M => himpl w _ _ ((mem_ownF (n := 14) M rfl).rd) ((mem_ownF (n := 16) M rfl).rd)) ?_
                  intro fx1_481 fk1_481 fx2_481 fk2_481 fx3_481 fk3_481 fx4_481 fk4_481 fx5_481 fk5_481 fx6_481 fk6_481 fx7_481 fk7_481 fx8_481 fk8_481 fx9_481 fk9_481 fx10_481 fk10_481
                  refine hK482 _ _ (fun w M => (mem_take 14 M :)) ?_
                  refine ga_v 5 rfl (by kernel_rfl) (by kernel_rfl) (by kernel_rfl) (.free rfl) rfl rfl (qt_move rfl rfl) (fun _ _ _ h => h) ?_
                  refine ga_v 6 rfl (by kernel_rfl) (by kernel_rfl) (by kernel_rfl) (.free rfl) rfl rfl (qt_extract rfl rfl rfl) (fun _ _ _ h => h) ?_
                  refine ga_v 7 rfl (by kernel_rfl) (by kernel_rfl) (by kernel_rfl) (.free rfl) rfl rfl (qt_extract rfl rfl rfl) (fun _ _ _ h => h) ?_
                  refine ga_op 9 (by kernel_rfl) rfl (.free rfl) fun K483 hK483 => ?_
                  refine go_storeS (n := 15) rfl rfl rfl rfl (by kernel_rfl) rfl rfl rfl ?_
                  refine hK483 _ _ (fun w M => (mem_take 14 M :)) ?_
                  refine ga_v 10 rfl (by kernel_rfl) (by kernel_rfl) (by kernel_rfl) (.free rfl) rfl rfl (qt_assign rfl rfl) (fun _ _ _ h => h) ?_
                  refine ga_done (by kernel_rfl) ?_
                  refine gk_then (hK441 _ _ ?_)
                  refine gc_seq fun K484 hK484 => ?_
                  refine gc_seq fun K485 hK485 => ?_
                  refine gc_region ?_
                  refine g_v (.free rfl) rfl rfl (qt_loadS (n := 15) rfl rfl Try.underlying34 rfl (by kernel_rfl) rfl) ?_
                  refine g_v (.free rfl) rfl rfl (qt_loadS (n := 2) rfl rfl Try.underlying34 rfl (by kernel_rfl) rfl) ?_
                  refine g_q (.free rfl) rfl rfl (qt_call rfl Try.func24 rfl (by decide) rfl (fun w M => eqF_refl_any w _ _ _ ((mem_ownF (n := 17) M rfl).rd) ((mem_ownF (n := 5) M rfl).rd))) ?_
                  refine g_v (.free rfl) rfl rfl (qt_not rfl rfl) ?_
                  refine g_v (.free rfl) rfl rfl (qt_move rfl rfl) ?_
                  refine g_v (.held _ _ _ rfl rfl rfl) rfl rfl (qt_move rfl rfl) ?_
                  refine g_v (.held _ _ _ rfl rfl rfl) rfl rfl (qt_move rfl rfl) ?_
                  refine g_v (.held _ _ _ rfl rfl rfl) rfl rfl (qt_neq_f rfl rfl rfl (fun h => h rfl)) ?_
                  refine g_v (.free rfl) rfl rfl (qt_pick_f rfl rfl rfl) ?_
                  refine g_nil ?_
                  refine gk_then (hK485 _ _ ?_)
                  refine gc_cond_f rfl ?_
                  refine gc_skip ?_
                  refine gk_then (hK484 _ _ ?_)
                  refine gc_seq fun K486 hK486 => ?_
                  refine gc_region ?_
                  refine g_v (.free rfl) rfl rfl (qt_assign rfl rfl) ?_
                  refine g_nil ?_
                  refine gk_then (hK486 _ _ ?_)
                  refine gc_seq fun K487 hK487 => ?_
                  refine gc_region ?_
                  refine g_v (.free rfl) rfl rfl (qt_loadS (n := 11) rfl rfl Try.underlying34 rfl (by kernel_rfl) rfl) ?_
                  refine g_v (.free rfl) rfl rfl (qt_move rfl rfl) ?_
                  refine g_q (.free rfl) rfl rfl (qt_call rfl Try.func42 rfl (by decide) rfl (fun w M => heldF_any w _ _ _ ((mem_ownF (n := 10) M rfl).rd) (by first | assumption | omega) (by first | assumption | omega))) ?_
                  refine g_v (.free rfl) rfl rfl (qt_assign rfl rfl) ?_
                  refine g_nil ?_
                  refine gk_then (hK487 _ _ ?_)
                  refine gc_seq fun K488 hK488 => ?_
                  refine gc_seq fun K489 hK489 => ?_
                  refine gc_region ?_
                  refine g_v (.free rfl) rfl rfl (qt_move rfl rfl) ?_
                  refine g_v (.free rfl) rfl rfl (qt_lss rfl rfl rfl) ?_
                  refine g_nil ?_
                  refine gk_then (hK489 _ _ ?_)
                  refine gc_cond rfl (fun hc38 => ?_) (fun hc38 => ?_)
                  · try simp only [decide_eq_true_eq, decide_eq_false_iff_not, Bool.not_eq_true', Bool.not_eq_false', Bool.not_eq_eq_eq_not, Bool.not_true, Bool.not_false, ne_eq, Decidable.not_not, Classical.not_not] at hc38
                    first | (exfalso; omega) | exact absurd rfl hc38 | (simp at hc38)
                  · try simp only [decide_eq_true_eq, decide_eq_false_iff_not, Bool.not_eq_true', Bool.not_eq_false', Bool.not_eq_eq_eq_not, Bool.not_true, Bool.not_false, ne_eq, Decidable.not_not, Classical.not_not] at hc38
                    refine gc_skip ?_
                    refine gk_then (hK488 _ _ ?_)
                    refine gc_seq fun K490 hK490 => ?_
                    refine gc_seq fun K491 hK491 => ?_
                    refine gc_region ?_
                    refine g_v (.free rfl) rfl rfl (qt_move rfl rfl) ?_
                    refine g_v (.free rfl) rfl rfl (qt_move rfl rfl) ?_
                    refine g_v (.free rfl) rfl rfl (qt_neq rfl rfl rfl) ?_
                    refine g_nil ?_
                    refine gk_then (hK491 _ _ ?_)
                    refine gc_cond rfl (fun hc39 => ?_) (fun hc39 => ?_)
                    · try simp only [decide_eq_true_eq, decide_eq_false_iff_not, Bool.not_eq_true', Bool.not_eq_false', Bool.not_eq_eq_eq_not, Bool.not_true, Bool.not_false, ne_eq, Decidable.not_not, Classical.not_not] at hc39
                      first | (exfalso; omega) | exact absurd rfl hc39 | (simp at hc39)
                    · try simp only [decide_eq_true_eq, decide_eq_false_iff_not, Bool.not_eq_true', Bool.not_eq_false', Bool.not_eq_eq_eq_not, Bool.not_true, Bool.not_false, ne_eq, Decidable.not_not, Classical.not_not] at hc39
                      refine gc_skip ?_
                      refine gk_then (hK490 _ _ ?_)
                      refine gc_seq fun K492 hK492 => ?_
                      refine gc_region ?_
                      refine g_v (.free rfl) rfl rfl (qt_assign rfl rfl) ?_
                      refine g_nil ?_
                      refine gk_then (hK492 _ _ ?_)
                      refine gc_ret ?_
                      refine ret_1 rfl rfl  (fun w M => ?_)
                      exact ⟨rfl, M.1⟩
              · refine go_alloc (z := (.agg #[.int .i64 0, .slice none 0 0, .slice none 0 0, .slice none 0 0, .slice none 0 0, .int .i64 0, .slice none 0 0, .slice none 0 0, .slice none 0 0, .slice none 0 0, .slice none 0 0, .slice none 0 0])) (cs := [.int .i64 0, .slice none 0 0, .slice none 0 0, .slice none 0 0, .slice none 0 0, .int .i64 0, .slice none 0 0, .slice none 0 0, .slice none 0 0, .slice none 0 0, .slice none 0 0, .slice none 0 0]) rfl rfl rfl (fun w => by kernel_rfl) rfl ?_
                intro B493
                refine hK442 _ _ (fun w M => (mem_take 14 M :)) ?_
                refine ga_op 1 (by kernel_rfl) rfl (.free rfl) fun K496 hK496 => ?_
                refine go_callFn1 rfl rfl rfl Try.func22 rfl (by decide) rfl (fun w M => toF_any w _ _ (mem_rdF M R0)) ?_
                intro fx1_495 fk1_495 fx2_495 fk2_495 fx3_495 fk3_495 fx4_495 fk4_495 fx5_495 fk5_495 fx6_495 fk6_495 fx7_495 fk7_495 fx8_495 fk8_495 fx9_495 fk9_495 fx10_495 fk10_495
                refine hK496 _ _ (fun w M => (mem_take 14 M :)) ?_
                refine ga_op 3 (by kernel_rfl) rfl (.free rfl) fun K498 hK498 => ?_
                refine go_callFn1 rfl rfl rfl Try.func22 rfl (by decide) rfl (fun w M => toF_any w _ _ (mem_rdF M R1)) ?_
                intro fx1_497 fk1_497 fx2_497 fk2_497 fx3_497 fk3_497 fx4_497 fk4_497 fx5_497 fk5_497 fx6_497 fk6_497 fx7_497 fk7_497 fx8_497 fk8_497 fx9_497 fk9_497 fx10_497 fk10_497
                refine hK498 _ _ (fun w M => (mem_take 14 M :)) ?_
                refine ga_op 4 (by kernel_rfl) rfl (.free rfl) fun K500 hK500 => ?_
                refine go_callFI1 rfl rfl rfl Try.func41 rfl (by decide) rfl (fun w M => himpl w _ _ ((mem_ownF (n := 15) M rfl).rd) ((mem_ownF (n := 16) M rfl).rd)) ?_
                intro fx1_499 fk1_499 fx2_499 fk2_499 fx3_499 fk3_499 fx4_499 fk4_499 fx5_499 fk5_499 fx6_499 fk6_499 fx7_499 fk7_499 fx8_499 fk8_499 fx9_499 fk9_499 fx10_499 fk10_499
                refine hK500 _ _ (fun w M => (mem_take 14 M :)) ?_
                refine ga_v 5 rfl (by kernel_rfl) (by kernel_rfl) (by kernel_rfl) (.free rfl) rfl rfl (qt_move rfl rfl) (fun _ _ _ h => h) ?_
                refine ga_v 6 rfl (by kernel_rfl) (by kernel_rfl) (by kernel_rfl) (.free rfl) rfl rfl (qt_extract rfl rfl rfl) (fun _ _ _ h => h) ?_
                refine ga_v 7 rfl (by kernel_rfl) (by kernel_rfl) (by kernel_rfl) (.free rfl) rfl rfl (qt_extract rfl rfl rfl) (fun _ _ _ h => h) ?_
                refine ga_op 9 (by kernel_rfl) rfl (.free rfl) fun K501 hK501 => ?_
                refine go_storeS (n := 14) rfl rfl rfl rfl (by kernel_rfl) rfl rfl rfl ?_
                refine hK501 _ _ (fun w M => (mem_take 14 M :)) ?_
                refine ga_v 10 rfl (by kernel_rfl) (by kernel_rfl) (by kernel_rfl) (.free rfl) rfl rfl (qt_assign rfl rfl) (fun _ _ _ h => h) ?_
                refine ga_done (by kernel_rfl) ?_
                refine gk_then (hK441 _ _ ?_)
                refine gc_seq fun K502 hK502 => ?_
                refine gc_seq fun K503 hK503 => ?_
                refine gc_region ?_
                refine g_v (.free rfl) rfl rfl (qt_loadS (n := 14) rfl rfl Try.underlying34 rfl (by kernel_rfl) rfl) ?_
                refine g_v (.free rfl) rfl rfl (qt_loadS (n := 2) rfl rfl Try.underlying34 rfl (by kernel_rfl) rfl) ?_
                refine g_q (.free rfl) rfl rfl (qt_call rfl Try.func24 rfl (by decide) rfl (fun w M => eqF_refl_any w _ _ _ ((mem_ownF (n := 17) M rfl).rd) ((mem_ownF (n := 5) M rfl).rd))) ?_
                refine g_v (.free rfl) rfl rfl (qt_not rfl rfl) ?_
                refine g_v (.free rfl) rfl rfl (qt_move rfl rfl) ?_
                refine g_v (.held _ _ _ rfl rfl rfl) rfl rfl (qt_move rfl rfl) ?_
                refine g_v (.held _ _ _ rfl rfl rfl) rfl rfl (qt_move rfl rfl) ?_
                refine g_v (.held _ _ _ rfl rfl rfl) rfl rfl (qt_neq_f rfl rfl rfl (fun h => h rfl)) ?_
                refine g_v (.free rfl) rfl rfl (qt_pick_f rfl rfl rfl) ?_
                refine g_nil ?_
                refine gk_then (hK503 _ _ ?_)
                refine gc_cond_f rfl ?_
                refine gc_skip ?_
                refine gk_then (hK502 _ _ ?_)
                refine gc_seq fun K504 hK504 => ?_
                refine gc_region ?_
                refine g_v (.free rfl) rfl rfl (qt_assign rfl rfl) ?_
                refine g_nil ?_
                refine gk_then (hK504 _ _ ?_)
                refine gc_seq fun K505 hK505 => ?_
                refine gc_region ?_
                refine g_v (.free rfl) rfl rfl (qt_loadS (n := 11) rfl rfl Try.underlying34 rfl (by kernel_rfl) rfl) ?_
                refine g_v (.free rfl) rfl rfl (qt_move rfl rfl) ?_
                refine g_q (.free rfl) rfl rfl (qt_call rfl Try.func42 rfl (by decide) rfl (fun w M => heldF_any w _ _ _ ((mem_ownF (n := 10) M rfl).rd) (by first | assumption | omega) (by first | assumption | omega))) ?_
                refine g_v (.free rfl) rfl rfl (qt_assign rfl rfl) ?_
                refine g_nil ?_
                refine gk_then (hK505 _ _ ?_)
                refine gc_seq fun K506 hK506 => ?_
                refine gc_seq fun K507 hK507 => ?_
                refine gc_region ?_
                refine g_v (.free rfl) rfl rfl (qt_move rfl rfl) ?_
                refine g_v (.free rfl) rfl rfl (qt_lss rfl rfl rfl) ?_
                refine g_nil ?_
                refine gk_then (hK507 _ _ ?_)
                refine gc_cond rfl (fun hc40 => ?_) (fun hc40 => ?_)
                · try simp only [decide_eq_true_eq, decide_eq_false_iff_not, Bool.not_eq_true', Bool.not_eq_false', Bool.not_eq_eq_eq_not, Bool.not_true, Bool.not_false, ne_eq, Decidable.not_not, Classical.not_not] at hc40
                  first | (exfalso; omega) | exact absurd rfl hc40 | (simp at hc40)
                · try simp only [decide_eq_true_eq, decide_eq_false_iff_not, Bool.not_eq_true', Bool.not_eq_false', Bool.not_eq_eq_eq_not, Bool.not_true, Bool.not_false, ne_eq, Decidable.not_not, Classical.not_not] at hc40
                  refine gc_skip ?_
                  refine gk_then (hK506 _ _ ?_)
                  refine gc_seq fun K508 hK508 => ?_
                  refine gc_seq fun K509 hK509 => ?_
                  refine gc_region ?_
                  refine g_v (.free rfl) rfl rfl (qt_move rfl rfl) ?_
                  refine g_v (.free rfl) rfl rfl (qt_move rfl rfl) ?_
                  refine g_v (.free rfl) rfl rfl (qt_neq rfl rfl rfl) ?_
                  refine g_nil ?_
                  refine gk_then (hK509 _ _ ?_)
                  refine gc_cond rfl (fun hc41 => ?_) (fun hc41 => ?_)
                  · try simp only [decide_eq_true_eq, decide_eq_false_iff_not, Bool.not_eq_true', Bool.not_eq_false', Bool.not_eq_eq_eq_not, Bool.not_true, Bool.not_false, ne_eq, Decidable.not_not, Classical.not_not] at hc41
                    first | (exfalso; omega) | exact absurd rfl hc41 | (simp at hc41)
                  · try simp only [decide_eq_true_eq, decide_eq_false_iff_not, Bool.not_eq_true', Bool.not_eq_false', Bool.not_eq_eq_eq_not, Bool.not_true, Bool.not_false, ne_eq, Decidable.not_not, Classical.not_not] at hc41
                    refine gc_skip ?_
                    refine gk_then (hK508 _ _ ?_)
                    refine gc_seq fun K510 hK510 => ?_
                    refine gc_region ?_
                    refine g_v (.free rfl) rfl rfl (qt_assign rfl rfl) ?_
                    refine g_nil ?_
                    refine gk_then (hK510 _ _ ?_)
                    refine gc_ret ?_
                    refine ret_1 rfl rfl  (fun w M => ?_)
                    exact ⟨rfl, M.1⟩

set_option maxHeartbeats 1000000 in
set_option maxRecDepth 100000 in
theorem big0 (w : World) (v0 : Value) (a0 : Fct) (v1 : Value) (a1 : Fct) (r0 : Fct) (r1 : Int) (h0 : InF w v0 a0) (h1 : InF w v1 a1) (nl : ¬ (szFn a0 ≤ 1048576)) :
    Calls Try.prog 12 #[v0, v1] w (RetB w true) := by
  have I0 := h0
  obtain ⟨px1_0, px2_0, px3_0, px4_0, px5_0, px6_0, px7_0, px8_0, px9_0, px10_0, pk1_0, pk2_0, pk3_0, pk4_0, pk5_0, pk6_0, pk7_0, pk8_0, pk9_0, pk10_0, rfl, _⟩ := h0.form
  have I1 := h1
  obtain ⟨px1_1, px2_1, px3_1, px4_1, px5_1, px6_1, px7_1, px8_1, px9_1, px10_1, pk1_1, pk2_1, pk3_1, pk4_1, pk5_1, pk6_1, pk7_1, pk8_1, pk9_1, pk10_1, rfl, _⟩ := h1.form
  go_enter Try.func12, Try.ntmps12
  refine gc_enter (N := 119) rfl (look_cons (k := 0) rfl (look_cons (k := 1) rfl (look_nil _))) ?_
  refine gc_seq fun K1 hK1 => ?_
  refine gc_region ?_
  refine g_op (.free rfl) fun K3 hK3 => ?_
  refine go_box rfl rfl rfl rfl rfl ?_
  intro B2
  refine hK3 _ _ ?_
  refine g_op (.free rfl) fun K5 hK5 => ?_
  refine go_box rfl rfl rfl rfl rfl ?_
  intro B4
  refine hK5 _ _ ?_
  refine g_v (.free rfl) rfl rfl (qt_assign rfl rfl) ?_
  refine g_nil ?_
  refine gk_then (hK1 _ _ ?_)
  refine gc_seq fun K6 hK6 => ?_
  refine gc_region ?_
  refine g_v (.free rfl) rfl rfl (qt_assign rfl rfl) ?_
  refine g_nil ?_
  refine gk_then (hK6 _ _ ?_)
  refine gc_seq fun K7 hK7 => ?_
  refine gc_region ?_
  refine g_v (.free rfl) rfl rfl (qt_loadS (n := 0) rfl rfl Try.underlying27 rfl (by kernel_rfl) rfl) ?_
  refine g_v (.free rfl) rfl rfl (qt_move rfl rfl) ?_
  refine g_q (.free rfl) rfl rfl (qt_call rfl Try.func20 rfl (by decide) rfl (fun w M => szF_gt w _ _ _ (inF_below M.1 I0) (by first | assumption | omega) (by first | assumption | omega) (by first | assumption | omega))) ?_
  refine g_v (.free rfl) rfl rfl (qt_assign rfl rfl) ?_
  refine g_nil ?_
  refine gk_then (hK7 _ _ ?_)
  refine gc_seq fun K8 hK8 => ?_
  refine gc_seq fun K9 hK9 => ?_
  refine gc_region ?_
  refine g_v (.free rfl) rfl rfl (qt_move rfl rfl) ?_
  refine g_v (.free rfl) rfl rfl (qt_lss_t rfl rfl rfl (by decide)) ?_
  refine g_nil ?_
  refine gk_then (hK9 _ _ ?_)
  refine gc_cond_t rfl ?_
  refine gc_seq fun K10 hK10 => ?_
  refine gc_region ?_
  refine g_v (.free rfl) rfl rfl (qt_assign rfl rfl) ?_
  refine g_nil ?_
  refine gk_then (hK10 _ _ ?_)
  refine gc_ret ?_
  refine gk_then_ret ?_
  refine ret_1 rfl rfl  (fun w M => ?_)
  exact ⟨rfl, M.1⟩

set_option maxHeartbeats 1000000 in
set_option maxRecDepth 100000 in
theorem big1 (w : World) (v0 : Value) (a0 : Fct) (v1 : Value) (a1 : Fct) (r0 : Fct) (r1 : Int) (h0 : InF w v0 a0) (h1 : InF w v1 a1) (l0 : szFn a0 ≤ 1048576) (nl : ¬ (szFn a0 + szFn a1 ≤ 1048576)) :
    Calls Try.prog 12 #[v0, v1] w (RetB w true) := by
  have I0 := h0
  obtain ⟨px1_0, px2_0, px3_0, px4_0, px5_0, px6_0, px7_0, px8_0, px9_0, px10_0, pk1_0, pk2_0, pk3_0, pk4_0, pk5_0, pk6_0, pk7_0, pk8_0, pk9_0, pk10_0, rfl, _⟩ := h0.form
  have I1 := h1
  obtain ⟨px1_1, px2_1, px3_1, px4_1, px5_1, px6_1, px7_1, px8_1, px9_1, px10_1, pk1_1, pk2_1, pk3_1, pk4_1, pk5_1, pk6_1, pk7_1, pk8_1, pk9_1, pk10_1, rfl, _⟩ := h1.form
  go_enter Try.func12, Try.ntmps12
  refine gc_enter (N := 119) rfl (look_cons (k := 0) rfl (look_cons (k := 1) rfl (look_nil _))) ?_
  refine gc_seq fun K1 hK1 => ?_
  refine gc_region ?_
  refine g_op (.free rfl) fun K3 hK3 => ?_
  refine go_box rfl rfl rfl rfl rfl ?_
  intro B2
  refine hK3 _ _ ?_
  refine g_op (.free rfl) fun K5 hK5 => ?_
  refine go_box rfl rfl rfl rfl rfl ?_
  intro B4
  refine hK5 _ _ ?_
  refine g_v (.free rfl) rfl rfl (qt_assign rfl rfl) ?_
  refine g_nil ?_
  refine gk_then (hK1 _ _ ?_)
  refine gc_seq fun K6 hK6 => ?_
  refine gc_region ?_
  refine g_v (.free rfl) rfl rfl (qt_assign rfl rfl) ?_
  refine g_nil ?_
  refine gk_then (hK6 _ _ ?_)
  refine gc_seq fun K7 hK7 => ?_
  refine gc_region ?_
  refine g_v (.free rfl) rfl rfl (qt_loadS (n := 0) rfl rfl Try.underlying27 rfl (by kernel_rfl) rfl) ?_
  refine g_v (.free rfl) rfl rfl (qt_move rfl rfl) ?_
  refine g_q (.free rfl) rfl rfl (qt_call rfl Try.func20 rfl (by decide) rfl (fun w M => szF_le w _ _ _ (inF_below M.1 I0) (by first | assumption | omega) (by first | assumption | omega) (by first | assumption | omega))) ?_
  refine g_v (.free rfl) rfl rfl (qt_assign rfl rfl) ?_
  refine g_nil ?_
  refine gk_then (hK7 _ _ ?_)
  refine gc_seq fun K8 hK8 => ?_
  refine gc_seq fun K9 hK9 => ?_
  refine gc_region ?_
  refine g_v (.free rfl) rfl rfl (qt_move rfl rfl) ?_
  refine g_v (.free rfl) rfl rfl (qt_lss rfl rfl rfl) ?_
  refine g_nil ?_
  refine gk_then (hK9 _ _ ?_)
  refine gc_cond rfl (fun hc0 => ?_) (fun hc0 => ?_)
  · try simp only [decide_eq_true_eq, decide_eq_false_iff_not, Bool.not_eq_true', Bool.not_eq_false', Bool.not_eq_eq_eq_not, Bool.not_true, Bool.not_false, ne_eq, Decidable.not_not, Classical.not_not] at hc0
    first | (exfalso; omega) | exact absurd rfl hc0 | (simp at hc0)
  · try simp only [decide_eq_true_eq, decide_eq_false_iff_not, Bool.not_eq_true', Bool.not_eq_false', Bool.not_eq_eq_eq_not, Bool.not_true, Bool.not_false, ne_eq, Decidable.not_not, Classical.not_not] at hc0
    refine gc_skip ?_
    refine gk_then (hK8 _ _ ?_)
    refine gc_seq fun K10 hK10 => ?_
    refine gc_region ?_
    refine g_v (.free rfl) rfl rfl (qt_loadS (n := 1) rfl rfl Try.underlying27 rfl (by kernel_rfl) rfl) ?_
    refine g_v (.free rfl) rfl rfl (qt_move rfl rfl) ?_
    refine g_q (.free rfl) rfl rfl (qt_call rfl Try.func20 rfl (by decide) rfl (fun w M => szF_gt w _ _ _ (inF_below M.1 I1) (by first | assumption | omega) (by first | assumption | omega) (by first | assumption | omega))) ?_
    refine g_v (.free rfl) rfl rfl (qt_assign rfl rfl) ?_
    refine g_nil ?_
    refine gk_then (hK10 _ _ ?_)
    refine gc_seq fun K11 hK11 => ?_
    refine gc_seq fun K12 hK12 => ?_
    refine gc_region ?_
    refine g_v (.free rfl) rfl rfl (qt_move rfl rfl) ?_
    refine g_v (.free rfl) rfl rfl (qt_lss_t rfl rfl rfl (by decide)) ?_
    refine g_nil ?_
    refine gk_then (hK12 _ _ ?_)
    refine gc_cond_t rfl ?_
    refine gc_seq fun K13 hK13 => ?_
    refine gc_region ?_
    refine g_v (.free rfl) rfl rfl (qt_assign rfl rfl) ?_
    refine g_nil ?_
    refine gk_then (hK13 _ _ ?_)
    refine gc_ret ?_
    refine gk_then_ret ?_
    refine ret_1 rfl rfl  (fun w M => ?_)
    exact ⟨rfl, M.1⟩
end Go.Proofs.Ytpppoipaabofgaa.exactThenFunctors
