
/- The exact law of InverseTransformation: its model and its program do the same, in memory of their own. Written by wip/tools/genlaw.py. -/
import Derived.Test.YtpppoipaabofgaaBase
import Derived.Test.YtpppoipaabofgaaLawC
import Derived.Test.YtpppoipaabofgaaRul4
import Derived.Test.YtpppoipaabofgaaTriX
set_option linter.unusedSimpArgs false
set_option linter.unusedVariables false
set_option linter.unusedSectionVars false
namespace Go.Proofs.Ytpppoipaabofgaa.exactInverseTransformation
open Go.ChangeShapes Go.WideShapes Go.ChangeAt Go.RowKit
set_option maxHeartbeats 4000000 in
set_option maxRecDepth 100000 in
theorem main (w : World) (v0 : Value) (a0 : Tra) (r0 : Tra) (r1 : Int) (h0 : InTr w v0 a0) (l0 : szTr a0 ≤ 1048576) (hr0 : mzTr r0 ≤ 7500000000000000) (hspec : (∀ (w : World) (v0 : Value), RdTr w v0 a0 → Calls Try.prog 38 #[v0] w (RetTrI w r0 r1))) (himpl : (∀ (w : World) (v0 : Value), RdTr w v0 a0 → Calls Try.prog 39 #[v0] w (RetTrI w r0 r1))) :
    Calls Try.prog 11 #[v0] w (RetB w true) := by
  have R0 := h0.rd (by omega)
  have mz0 := mzTr_le a0
  have I0 := h0
  obtain ⟨px1_0, px2_0, px3_0, px4_0, px5_0, px6_0, px7_0, px8_0, px9_0, px10_0, px11_0, px12_0, px13_0, px14_0, px15_0, px16_0, px17_0, px18_0, px19_0, px20_0, px21_0, pk1_0, pk2_0, pk3_0, pk4_0, pk5_0, pk6_0, pk7_0, pk8_0, pk9_0, pk10_0, pk11_0, pk12_0, pk13_0, pk14_0, pk15_0, pk16_0, pk17_0, pk18_0, pk19_0, pk20_0, pk21_0, rfl, _⟩ := h0.form
  go_enter Try.func11, Try.ntmps11
  refine gc_enter (N := 96) rfl (look_cons (k := 0) rfl (look_nil _)) ?_
  refine gc_seq fun K1 hK1 => ?_
  refine gc_region ?_
  refine g_op (.free rfl) fun K3 hK3 => ?_
  refine go_box rfl rfl rfl rfl rfl ?_
  intro B2
  refine hK3 _ _ ?_
  refine g_v (.free rfl) rfl rfl (qt_assign rfl rfl) ?_
  refine g_nil ?_
  refine gk_then (hK1 _ _ ?_)
  refine gc_seq fun K4 hK4 => ?_
  refine gc_region ?_
  refine g_v (.free rfl) rfl rfl (qt_assign rfl rfl) ?_
  refine g_nil ?_
  refine gk_then (hK4 _ _ ?_)
  refine gc_seq fun K5 hK5 => ?_
  refine gc_region ?_
  refine g_v (.free rfl) rfl rfl (qt_loadS (n := 0) rfl rfl Try.underlying29 rfl (by kernel_rfl) rfl) ?_
  refine g_v (.free rfl) rfl rfl (qt_move rfl rfl) ?_
  refine g_q (.free rfl) rfl rfl (qt_call rfl Try.func13 rfl (by decide) rfl (fun w M => szTr_le w _ _ _ (inTr_below M.1 I0) (by first | assumption | omega) (by first | assumption | omega) (by first | assumption | omega))) ?_
  refine g_v (.free rfl) rfl rfl (qt_assign rfl rfl) ?_
  refine g_nil ?_
  refine gk_then (hK5 _ _ ?_)
  refine gc_seq fun K6 hK6 => ?_
  refine gc_seq fun K7 hK7 => ?_
  refine gc_region ?_
  refine g_v (.free rfl) rfl rfl (qt_move rfl rfl) ?_
  refine g_v (.free rfl) rfl rfl (qt_lss rfl rfl rfl) ?_
  refine g_nil ?_
  refine gk_then (hK7 _ _ ?_)
  refine gc_cond rfl (fun hc0 => ?_) (fun hc0 => ?_)
  · try simp only [decide_eq_true_eq, decide_eq_false_iff_not, Bool.not_eq_true', Bool.not_eq_false', Bool.not_eq_eq_eq_not, Bool.not_true, Bool.not_false, ne_eq, Decidable.not_not, Classical.not_not] at hc0
    first | (exfalso; omega) | exact absurd rfl hc0 | (simp at hc0)
  · try simp only [decide_eq_true_eq, decide_eq_false_iff_not, Bool.not_eq_true', Bool.not_eq_false', Bool.not_eq_eq_eq_not, Bool.not_true, Bool.not_false, ne_eq, Decidable.not_not, Classical.not_not] at hc0
    refine gc_skip ?_
    refine gk_then (hK6 _ _ ?_)
    refine gc_seq fun K8 hK8 => ?_
    refine gc_region ?_
    refine g_v (.free rfl) rfl rfl (qt_loadS (n := 0) rfl rfl Try.underlying29 rfl (by kernel_rfl) rfl) ?_
    refine g_op (.free rfl) fun K10 hK10 => ?_
    refine go_callTr rfl rfl rfl Try.func15 rfl (by decide) rfl (fun w M => toTr_any w _ _ (mem_rdTr M R0)) ?_
    intro tx1_9 tk1_9 tx2_9 tk2_9 tx3_9 tk3_9 tx4_9 tk4_9 tx5_9 tk5_9 tx6_9 tk6_9 tx7_9 tk7_9 tx8_9 tk8_9 tx9_9 tk9_9 tx10_9 tk10_9 tx11_9 tk11_9 tx12_9 tk12_9 tx13_9 tk13_9 tx14_9 tk14_9 tx15_9 tk15_9 tx16_9 tk16_9 tx17_9 tk17_9 tx18_9 tk18_9 tx19_9 tk19_9 tx20_9 tk20_9 tx21_9 tk21_9
    refine hK10 _ _ ?_
    refine g_op (.free rfl) fun K12 hK12 => ?_
    refine go_callTrI rfl rfl rfl Try.func38 rfl (by decide) rfl (fun w M => hspec w _ ((mem_ownTr (n := 1) M rfl).rd)) ?_
    intro tx1_11 tk1_11 tx2_11 tk2_11 tx3_11 tk3_11 tx4_11 tk4_11 tx5_11 tk5_11 tx6_11 tk6_11 tx7_11 tk7_11 tx8_11 tk8_11 tx9_11 tk9_11 tx10_11 tk10_11 tx11_11 tk11_11 tx12_11 tk12_11 tx13_11 tk13_11 tx14_11 tk14_11 tx15_11 tk15_11 tx16_11 tk16_11 tx17_11 tk17_11 tx18_11 tk18_11 tx19_11 tk19_11 tx20_11 tk20_11 tx21_11 tk21_11
    refine hK12 _ _ ?_
    refine g_v (.free rfl) rfl rfl (qt_move rfl rfl) ?_
    refine g_v (.free rfl) rfl rfl (qt_extract rfl rfl rfl) ?_
    refine g_v (.free rfl) rfl rfl (qt_extract rfl rfl rfl) ?_
    refine g_op (.free rfl) fun K14 hK14 => ?_
    refine go_alloc (z := (.agg #[.int .i64 0, .slice none 0 0, .slice none 0 0, .slice none 0 0, .slice none 0 0, .int .i64 0, .slice none 0 0, .slice none 0 0, .slice none 0 0, .slice none 0 0, .slice none 0 0, .slice none 0 0, .int .i64 0, .slice none 0 0, .slice none 0 0, .slice none 0 0, .slice none 0 0, .int .i64 0, .slice none 0 0, .slice none 0 0, .slice none 0 0, .slice none 0 0, .slice none 0 0, .slice none 0 0, .slice none 0 0])) (cs := [.int .i64 0, .slice none 0 0, .slice none 0 0, .slice none 0 0, .slice none 0 0, .int .i64 0, .slice none 0 0, .slice none 0 0, .slice none 0 0, .slice none 0 0, .slice none 0 0, .slice none 0 0, .int .i64 0, .slice none 0 0, .slice none 0 0, .slice none 0 0, .slice none 0 0, .int .i64 0, .slice none 0 0, .slice none 0 0, .slice none 0 0, .slice none 0 0, .slice none 0 0, .slice none 0 0, .slice none 0 0]) rfl rfl rfl (fun w => by kernel_rfl) rfl ?_
    intro B13
    refine hK14 _ _ ?_
    refine g_op (.free rfl) fun K15 hK15 => ?_
    refine go_storeS (n := 3) rfl rfl rfl rfl (by kernel_rfl) rfl rfl rfl ?_
    refine hK15 _ _ ?_
    refine g_v (.free rfl) rfl rfl (qt_assign rfl rfl) ?_
    refine g_nil ?_
    refine gk_then (hK8 _ _ ?_)
    refine gc_seq fun K16 hK16 => ?_
    refine gc_region ?_
    refine g_v (.free rfl) rfl rfl (qt_loadS (n := 0) rfl rfl Try.underlying29 rfl (by kernel_rfl) rfl) ?_
    refine g_op (.free rfl) fun K18 hK18 => ?_
    refine go_callTr rfl rfl rfl Try.func15 rfl (by decide) rfl (fun w M => toTr_any w _ _ (mem_rdTr M R0)) ?_
    intro tx1_17 tk1_17 tx2_17 tk2_17 tx3_17 tk3_17 tx4_17 tk4_17 tx5_17 tk5_17 tx6_17 tk6_17 tx7_17 tk7_17 tx8_17 tk8_17 tx9_17 tk9_17 tx10_17 tk10_17 tx11_17 tk11_17 tx12_17 tk12_17 tx13_17 tk13_17 tx14_17 tk14_17 tx15_17 tk15_17 tx16_17 tk16_17 tx17_17 tk17_17 tx18_17 tk18_17 tx19_17 tk19_17 tx20_17 tk20_17 tx21_17 tk21_17
    refine hK18 _ _ ?_
    refine g_op (.free rfl) fun K20 hK20 => ?_
    refine go_alloc (z := (.agg #[.int .i64 0, .slice none 0 0, .slice none 0 0, .slice none 0 0, .slice none 0 0, .int .i64 0, .slice none 0 0, .slice none 0 0, .slice none 0 0, .slice none 0 0, .slice none 0 0, .slice none 0 0, .int .i64 0, .slice none 0 0, .slice none 0 0, .slice none 0 0, .slice none 0 0, .int .i64 0, .slice none 0 0, .slice none 0 0, .slice none 0 0, .slice none 0 0, .slice none 0 0, .slice none 0 0, .slice none 0 0])) (cs := [.int .i64 0, .slice none 0 0, .slice none 0 0, .slice none 0 0, .slice none 0 0, .int .i64 0, .slice none 0 0, .slice none 0 0, .slice none 0 0, .slice none 0 0, .slice none 0 0, .slice none 0 0, .int .i64 0, .slice none 0 0, .slice none 0 0, .slice none 0 0, .slice none 0 0, .int .i64 0, .slice none 0 0, .slice none 0 0, .slice none 0 0, .slice none 0 0, .slice none 0 0, .slice none 0 0, .slice none 0 0]) rfl rfl rfl (fun w => by kernel_rfl) rfl ?_
    intro B19
    refine hK20 _ _ ?_
    refine g_op (.free rfl) fun K21 hK21 => ?_
    refine go_storeS (n := 5) rfl rfl rfl rfl (by kernel_rfl) rfl rfl rfl ?_
    refine hK21 _ _ ?_
    refine g_nil ?_
    refine gk_then (hK16 _ _ ?_)
    refine gc_seq fun K22 hK22 => ?_
    refine gc_region ?_
    refine g_v (.free rfl) rfl rfl (qt_loadS (n := 5) rfl rfl Try.underlying36 rfl (by kernel_rfl) rfl) ?_
    refine g_op (.free rfl) fun K24 hK24 => ?_
    refine go_callTrI rfl rfl rfl Try.func39 rfl (by decide) rfl (fun w M => himpl w _ ((mem_ownTr (n := 4) M rfl).rd)) ?_
    intro tx1_23 tk1_23 tx2_23 tk2_23 tx3_23 tk3_23 tx4_23 tk4_23 tx5_23 tk5_23 tx6_23 tk6_23 tx7_23 tk7_23 tx8_23 tk8_23 tx9_23 tk9_23 tx10_23 tk10_23 tx11_23 tk11_23 tx12_23 tk12_23 tx13_23 tk13_23 tx14_23 tk14_23 tx15_23 tk15_23 tx16_23 tk16_23 tx17_23 tk17_23 tx18_23 tk18_23 tx19_23 tk19_23 tx20_23 tk20_23 tx21_23 tk21_23
    refine hK24 _ _ ?_
    refine g_v (.free rfl) rfl rfl (qt_move rfl rfl) ?_
    refine g_v (.free rfl) rfl rfl (qt_extract rfl rfl rfl) ?_
    refine g_v (.free rfl) rfl rfl (qt_extract rfl rfl rfl) ?_
    refine g_op (.free rfl) fun K26 hK26 => ?_
    refine go_alloc (z := (.agg #[.int .i64 0, .slice none 0 0, .slice none 0 0, .slice none 0 0, .slice none 0 0, .int .i64 0, .slice none 0 0, .slice none 0 0, .slice none 0 0, .slice none 0 0, .slice none 0 0, .slice none 0 0, .int .i64 0, .slice none 0 0, .slice none 0 0, .slice none 0 0, .slice none 0 0, .int .i64 0, .slice none 0 0, .slice none 0 0, .slice none 0 0, .slice none 0 0, .slice none 0 0, .slice none 0 0, .slice none 0 0])) (cs := [.int .i64 0, .slice none 0 0, .slice none 0 0, .slice none 0 0, .slice none 0 0, .int .i64 0, .slice none 0 0, .slice none 0 0, .slice none 0 0, .slice none 0 0, .slice none 0 0, .slice none 0 0, .int .i64 0, .slice none 0 0, .slice none 0 0, .slice none 0 0, .slice none 0 0, .int .i64 0, .slice none 0 0, .slice none 0 0, .slice none 0 0, .slice none 0 0, .slice none 0 0, .slice none 0 0, .slice none 0 0]) rfl rfl rfl (fun w => by kernel_rfl) rfl ?_
    intro B25
    refine hK26 _ _ ?_
    refine g_op (.free rfl) fun K27 hK27 => ?_
    refine go_storeS (n := 7) rfl rfl rfl rfl (by kernel_rfl) rfl rfl rfl ?_
    refine hK27 _ _ ?_
    refine g_v (.free rfl) rfl rfl (qt_assign rfl rfl) ?_
    refine g_nil ?_
    refine gk_then (hK22 _ _ ?_)
    refine gc_seq fun K28 hK28 => ?_
    refine gc_seq fun K29 hK29 => ?_
    refine gc_region ?_
    refine g_v (.free rfl) rfl rfl (qt_loadS (n := 7) rfl rfl Try.underlying36 rfl (by kernel_rfl) rfl) ?_
    refine g_v (.free rfl) rfl rfl (qt_loadS (n := 3) rfl rfl Try.underlying36 rfl (by kernel_rfl) rfl) ?_
    refine g_q (.free rfl) rfl rfl (qt_call rfl Try.func17 rfl (by decide) rfl (fun w M => eqTr_refl_any w _ _ _ ((mem_ownTr (n := 6) M rfl).rd) ((mem_ownTr (n := 2) M rfl).rd))) ?_
    refine g_v (.free rfl) rfl rfl (qt_not rfl rfl) ?_
    refine g_v (.free rfl) rfl rfl (qt_move rfl rfl) ?_
    refine g_v (.held _ _ _ rfl rfl rfl) rfl rfl (qt_move rfl rfl) ?_
    refine g_v (.held _ _ _ rfl rfl rfl) rfl rfl (qt_move rfl rfl) ?_
    refine g_v (.held _ _ _ rfl rfl rfl) rfl rfl (qt_neq_f rfl rfl rfl (fun h => h rfl)) ?_
    refine g_v (.free rfl) rfl rfl (qt_pick_f rfl rfl rfl) ?_
    refine g_nil ?_
    refine gk_then (hK29 _ _ ?_)
    refine gc_cond_f rfl ?_
    refine gc_skip ?_
    refine gk_then (hK28 _ _ ?_)
    refine gc_seq fun K30 hK30 => ?_
    refine gc_seq fun K31 hK31 => ?_
    try simp only [List.nil_append, List.cons_append, List.append_assoc, List.set_cons_succ, List.set_cons_zero]
    refine ga_start _ (fun w M => M) ?_
    refine ga_v 0 rfl (by kernel_rfl) (by kernel_rfl) (by kernel_rfl) (.free rfl) rfl rfl (qt_loadS (n := 5) rfl rfl Try.underlying36 rfl (by kernel_rfl) rfl) (fun _ _ _ h => h) ?_
    refine ga_v 1 rfl (by kernel_rfl) (by kernel_rfl) (by kernel_rfl) (.free rfl) rfl rfl (qt_loadS (n := 0) rfl rfl Try.underlying29 rfl (by kernel_rfl) rfl) (fun _ _ _ h => h) ?_
    refine ga_op 2 (by kernel_rfl) rfl (.free rfl) fun K33 hK33 => ?_
    refine go_callTr rfl rfl rfl Try.func15 rfl (by decide) rfl (fun w M => toTr_any w _ _ (mem_rdTr M R0)) ?_
    intro tx1_32 tk1_32 tx2_32 tk2_32 tx3_32 tk3_32 tx4_32 tk4_32 tx5_32 tk5_32 tx6_32 tk6_32 tx7_32 tk7_32 tx8_32 tk8_32 tx9_32 tk9_32 tx10_32 tk10_32 tx11_32 tk11_32 tx12_32 tk12_32 tx13_32 tk13_32 tx14_32 tk14_32 tx15_32 tk15_32 tx16_32 tk16_32 tx17_32 tk17_32 tx18_32 tk18_32 tx19_32 tk19_32 tx20_32 tk20_32 tx21_32 tk21_32
    refine hK33 _ _ (fun w M => (mem_take 8 M :)) ?_
    refine ga_op 3 (by kernel_rfl) rfl (.free rfl) fun K34 hK34 => ?_
    refine go_q rfl rfl (qt_call rfl Try.func17 rfl (by decide) rfl (fun w M => eqTr_refl_any w _ _ _ ((mem_ownTr (n := 4) M rfl).rd) ((mem_ownTr (n := 8) M rfl).rd))) ?_
    refine hK34 _ _ (fun w M => (mem_take 8 M :)) ?_
    refine ga_v 4 rfl (by kernel_rfl) (by kernel_rfl) (by kernel_rfl) (.free rfl) rfl rfl (qt_not rfl rfl) (fun _ _ _ h => h) ?_
    refine ga_done (by kernel_rfl) ?_
    refine gk_then (hK31 _ _ ?_)
    refine gc_cond_f rfl ?_
    refine gc_skip ?_
    refine gk_then (hK30 _ _ ?_)
    refine gc_seq fun K35 hK35 => ?_
    refine gc_region ?_
    refine g_v (.free rfl) rfl rfl (qt_assign rfl rfl) ?_
    refine g_nil ?_
    refine gk_then (hK35 _ _ ?_)
    refine gc_seq fun K36 hK36 => ?_
    refine gc_region ?_
    refine g_v (.free rfl) rfl rfl (qt_loadS (n := 5) rfl rfl Try.underlying36 rfl (by kernel_rfl) rfl) ?_
    refine g_v (.free rfl) rfl rfl (qt_move rfl rfl) ?_
    refine g_op (.free rfl) fun K37 hK37 => ?_
    refine go_one (n := 4) rfl rfl rfl Try.func26 rfl (by decide) rfl rfl (fun R w M => markTr1_any _ w R _ _ _ _ _ _ _ _ _ _ _ _ _ _ _ _ _ _ _ _ _ _ _ (by omega) (by omega) M) ?_
    refine hK37 _ _ ?_
    refine g_v (.free rfl) rfl rfl (qt_assign rfl rfl) ?_
    refine g_nil ?_
    refine gk_then (hK36 _ _ ?_)
    refine gc_seq fun K38 hK38 => ?_
    refine gc_seq fun K39 hK39 => ?_
    refine gc_region ?_
    refine g_v (.free rfl) rfl rfl (qt_move rfl rfl) ?_
    refine g_v (.free rfl) rfl rfl (qt_lss rfl rfl rfl) ?_
    refine g_splitv (.free rfl) rfl rfl (qt_move rfl rfl) (fun hs14_2 => ?_) (fun hs14_2 => ?_)
    · try simp only [decide_eq_true_eq, decide_eq_false_iff_not, Bool.not_eq_true', Bool.not_eq_false', Bool.not_eq_eq_eq_not, Bool.not_true, Bool.not_false, ne_eq, Decidable.not_not, Classical.not_not] at hs14_2
      first | (exfalso; omega) | exact absurd rfl hs14_2 | (simp at hs14_2)
    · try simp only [decide_eq_true_eq, decide_eq_false_iff_not, Bool.not_eq_true', Bool.not_eq_false', Bool.not_eq_eq_eq_not, Bool.not_true, Bool.not_false, ne_eq, Decidable.not_not, Classical.not_not] at hs14_2
      refine g_v (.held _ _ _ rfl rfl rfl) rfl rfl (qt_loadS (n := 7) rfl rfl Try.underlying36 rfl (by kernel_rfl) rfl) ?_
      refine g_v (.held _ _ _ rfl rfl rfl) rfl rfl (qt_loadS (n := 3) rfl rfl Try.underlying36 rfl (by kernel_rfl) rfl) ?_
      refine g_q (.held _ _ _ rfl rfl rfl) rfl rfl (qt_call rfl Try.func17 rfl (by decide) rfl (fun w M => eqTr_refl_any w _ _ _ ((mem_ownTr (n := 6) M rfl).rd) ((mem_ownTr (n := 2) M rfl).rd))) ?_
      refine g_v (.held _ _ _ rfl rfl rfl) rfl rfl (qt_not rfl rfl) ?_
      refine g_v (.free rfl) rfl rfl (qt_pick_f rfl rfl rfl) ?_
      refine g_v (.free rfl) rfl rfl (qt_move rfl rfl) ?_
      refine g_v (.held _ _ _ rfl rfl rfl) rfl rfl (qt_move rfl rfl) ?_
      refine g_v (.held _ _ _ rfl rfl rfl) rfl rfl (qt_move rfl rfl) ?_
      refine g_v (.held _ _ _ rfl rfl rfl) rfl rfl (qt_neq_f rfl rfl rfl (fun h => h rfl)) ?_
      refine g_v (.free rfl) rfl rfl (qt_pick_f rfl rfl rfl) ?_
      refine g_nil ?_
      refine gk_then (hK39 _ _ ?_)
      refine gc_cond_f rfl ?_
      refine gc_skip ?_
      refine gk_then (hK38 _ _ ?_)
      refine gc_seq fun K40 hK40 => ?_
      refine gc_region ?_
      refine g_v (.free rfl) rfl rfl (qt_assign rfl rfl) ?_
      refine g_nil ?_
      refine gk_then (hK40 _ _ ?_)
      refine gc_seq fun K41 hK41 => ?_
      refine gc_region ?_
      refine g_v (.free rfl) rfl rfl (qt_loadS (n := 7) rfl rfl Try.underlying36 rfl (by kernel_rfl) rfl) ?_
      refine g_v (.free rfl) rfl rfl (qt_move rfl rfl) ?_
      refine g_op (.free rfl) fun K42 hK42 => ?_
      refine go_one (n := 6) rfl rfl rfl Try.func26 rfl (by decide) rfl rfl (fun R w M => markTr1_any _ w R _ _ _ _ _ _ _ _ _ _ _ _ _ _ _ _ _ _ _ _ _ _ _ (by omega) (by omega) M) ?_
      refine hK42 _ _ ?_
      refine g_v (.free rfl) rfl rfl (qt_assign rfl rfl) ?_
      refine g_nil ?_
      refine gk_then (hK41 _ _ ?_)
      refine gc_seq fun K43 hK43 => ?_
      refine gc_region ?_
      refine g_v (.free rfl) rfl rfl (qt_assign rfl rfl) ?_
      refine g_nil ?_
      refine gk_then (hK43 _ _ ?_)
      refine gc_seq fun K44 hK44 => ?_
      refine gc_region ?_
      refine g_v (.free rfl) rfl rfl (qt_loadS (n := 7) rfl rfl Try.underlying36 rfl (by kernel_rfl) rfl) ?_
      refine g_v (.free rfl) rfl rfl (qt_move rfl rfl) ?_
      refine g_q (.free rfl) rfl rfl (qt_call rfl Try.func27 rfl (by decide) rfl (fun w M => heldTr_any w _ _ _ ((mem_ownTr (n := 6) M rfl).rd) (by first | assumption | omega) (by first | assumption | omega))) ?_
      refine g_v (.free rfl) rfl rfl (qt_assign rfl rfl) ?_
      refine g_nil ?_
      refine gk_then (hK44 _ _ ?_)
      refine gc_seq fun K45 hK45 => ?_
      refine gc_seq fun K46 hK46 => ?_
      refine gc_region ?_
      refine g_v (.free rfl) rfl rfl (qt_move rfl rfl) ?_
      refine g_v (.free rfl) rfl rfl (qt_lss rfl rfl rfl) ?_
      refine g_nil ?_
      refine gk_then (hK46 _ _ ?_)
      refine gc_cond rfl (fun hc1 => ?_) (fun hc1 => ?_)
      · try simp only [decide_eq_true_eq, decide_eq_false_iff_not, Bool.not_eq_true', Bool.not_eq_false', Bool.not_eq_eq_eq_not, Bool.not_true, Bool.not_false, ne_eq, Decidable.not_not, Classical.not_not] at hc1
        first | (exfalso; omega) | exact absurd rfl hc1 | (simp at hc1)
      · try simp only [decide_eq_true_eq, decide_eq_false_iff_not, Bool.not_eq_true', Bool.not_eq_false', Bool.not_eq_eq_eq_not, Bool.not_true, Bool.not_false, ne_eq, Decidable.not_not, Classical.not_not] at hc1
        refine gc_skip ?_
        refine gk_then (hK45 _ _ ?_)
        refine gc_seq fun K47 hK47 => ?_
        refine gc_seq fun K48 hK48 => ?_
        refine gc_region ?_
        refine g_v (.free rfl) rfl rfl (qt_move rfl rfl) ?_
        refine g_v (.free rfl) rfl rfl (qt_move rfl rfl) ?_
        refine g_v (.free rfl) rfl rfl (qt_neq rfl rfl rfl) ?_
        refine g_nil ?_
        refine gk_then (hK48 _ _ ?_)
        refine gc_cond rfl (fun hc2 => ?_) (fun hc2 => ?_)
        · try simp only [decide_eq_true_eq, decide_eq_false_iff_not, Bool.not_eq_true', Bool.not_eq_false', Bool.not_eq_eq_eq_not, Bool.not_true, Bool.not_false, ne_eq, Decidable.not_not, Classical.not_not] at hc2
          first | (exfalso; omega) | exact absurd rfl hc2 | (simp at hc2)
        · try simp only [decide_eq_true_eq, decide_eq_false_iff_not, Bool.not_eq_true', Bool.not_eq_false', Bool.not_eq_eq_eq_not, Bool.not_true, Bool.not_false, ne_eq, Decidable.not_not, Classical.not_not] at hc2
          refine gc_skip ?_
          refine gk_then (hK47 _ _ ?_)
          refine gc_seq fun K49 hK49 => ?_
          refine gc_region ?_
          refine g_v (.free rfl) rfl rfl (qt_loadS (n := 0) rfl rfl Try.underlying29 rfl (by kernel_rfl) rfl) ?_
          refine g_op (.free rfl) fun K51 hK51 => ?_
          refine go_callTr rfl rfl rfl Try.func15 rfl (by decide) rfl (fun w M => toTr_any w _ _ (mem_rdTr M R0)) ?_
          intro tx1_50 tk1_50 tx2_50 tk2_50 tx3_50 tk3_50 tx4_50 tk4_50 tx5_50 tk5_50 tx6_50 tk6_50 tx7_50 tk7_50 tx8_50 tk8_50 tx9_50 tk9_50 tx10_50 tk10_50 tx11_50 tk11_50 tx12_50 tk12_50 tx13_50 tk13_50 tx14_50 tk14_50 tx15_50 tk15_50 tx16_50 tk16_50 tx17_50 tk17_50 tx18_50 tk18_50 tx19_50 tk19_50 tx20_50 tk20_50 tx21_50 tk21_50
          refine hK51 _ _ ?_
          refine g_op (.free rfl) fun K53 hK53 => ?_
          refine go_callTrI rfl rfl rfl Try.func39 rfl (by decide) rfl (fun w M => himpl w _ ((mem_ownTr (n := 9) M rfl).rd)) ?_
          intro tx1_52 tk1_52 tx2_52 tk2_52 tx3_52 tk3_52 tx4_52 tk4_52 tx5_52 tk5_52 tx6_52 tk6_52 tx7_52 tk7_52 tx8_52 tk8_52 tx9_52 tk9_52 tx10_52 tk10_52 tx11_52 tk11_52 tx12_52 tk12_52 tx13_52 tk13_52 tx14_52 tk14_52 tx15_52 tk15_52 tx16_52 tk16_52 tx17_52 tk17_52 tx18_52 tk18_52 tx19_52 tk19_52 tx20_52 tk20_52 tx21_52 tk21_52
          refine hK53 _ _ ?_
          refine g_v (.free rfl) rfl rfl (qt_move rfl rfl) ?_
          refine g_v (.free rfl) rfl rfl (qt_extract rfl rfl rfl) ?_
          refine g_v (.free rfl) rfl rfl (qt_extract rfl rfl rfl) ?_
          refine g_op (.free rfl) fun K55 hK55 => ?_
          refine go_alloc (z := (.agg #[.int .i64 0, .slice none 0 0, .slice none 0 0, .slice none 0 0, .slice none 0 0, .int .i64 0, .slice none 0 0, .slice none 0 0, .slice none 0 0, .slice none 0 0, .slice none 0 0, .slice none 0 0, .int .i64 0, .slice none 0 0, .slice none 0 0, .slice none 0 0, .slice none 0 0, .int .i64 0, .slice none 0 0, .slice none 0 0, .slice none 0 0, .slice none 0 0, .slice none 0 0, .slice none 0 0, .slice none 0 0])) (cs := [.int .i64 0, .slice none 0 0, .slice none 0 0, .slice none 0 0, .slice none 0 0, .int .i64 0, .slice none 0 0, .slice none 0 0, .slice none 0 0, .slice none 0 0, .slice none 0 0, .slice none 0 0, .int .i64 0, .slice none 0 0, .slice none 0 0, .slice none 0 0, .slice none 0 0, .int .i64 0, .slice none 0 0, .slice none 0 0, .slice none 0 0, .slice none 0 0, .slice none 0 0, .slice none 0 0, .slice none 0 0]) rfl rfl rfl (fun w => by kernel_rfl) rfl ?_
          intro B54
          refine hK55 _ _ ?_
          refine g_op (.free rfl) fun K56 hK56 => ?_
          refine go_storeS (n := 11) rfl rfl rfl rfl (by kernel_rfl) rfl rfl rfl ?_
          refine hK56 _ _ ?_
          refine g_v (.free rfl) rfl rfl (qt_assign rfl rfl) ?_
          refine g_nil ?_
          refine gk_then (hK49 _ _ ?_)
          refine gc_seq fun K57 hK57 => ?_
          refine gc_seq fun K58 hK58 => ?_
          refine gc_region ?_
          refine g_v (.free rfl) rfl rfl (qt_loadS (n := 11) rfl rfl Try.underlying36 rfl (by kernel_rfl) rfl) ?_
          refine g_v (.free rfl) rfl rfl (qt_loadS (n := 3) rfl rfl Try.underlying36 rfl (by kernel_rfl) rfl) ?_
          refine g_q (.free rfl) rfl rfl (qt_call rfl Try.func17 rfl (by decide) rfl (fun w M => eqTr_refl_any w _ _ _ ((mem_ownTr (n := 10) M rfl).rd) ((mem_ownTr (n := 2) M rfl).rd))) ?_
          refine g_v (.free rfl) rfl rfl (qt_not rfl rfl) ?_
          refine g_v (.free rfl) rfl rfl (qt_move rfl rfl) ?_
          refine g_v (.held _ _ _ rfl rfl rfl) rfl rfl (qt_move rfl rfl) ?_
          refine g_v (.held _ _ _ rfl rfl rfl) rfl rfl (qt_move rfl rfl) ?_
          refine g_v (.held _ _ _ rfl rfl rfl) rfl rfl (qt_neq_f rfl rfl rfl (fun h => h rfl)) ?_
          refine g_v (.free rfl) rfl rfl (qt_pick_f rfl rfl rfl) ?_
          refine g_nil ?_
          refine gk_then (hK58 _ _ ?_)
          refine gc_cond_f rfl ?_
          refine gc_skip ?_
          refine gk_then (hK57 _ _ ?_)
          refine gc_seq fun K59 hK59 => ?_
          refine gc_region ?_
          refine g_v (.free rfl) rfl rfl (qt_assign rfl rfl) ?_
          refine g_nil ?_
          refine gk_then (hK59 _ _ ?_)
          refine gc_seq fun K60 hK60 => ?_
          refine gc_region ?_
          refine g_v (.free rfl) rfl rfl (qt_loadS (n := 7) rfl rfl Try.underlying36 rfl (by kernel_rfl) rfl) ?_
          refine g_v (.free rfl) rfl rfl (qt_move rfl rfl) ?_
          refine g_q (.free rfl) rfl rfl (qt_call rfl Try.func27 rfl (by decide) rfl (fun w M => heldTr_any w _ _ _ ((mem_ownTr (n := 6) M rfl).rd) (by first | assumption | omega) (by first | assumption | omega))) ?_
          refine g_v (.free rfl) rfl rfl (qt_assign rfl rfl) ?_
          refine g_nil ?_
          refine gk_then (hK60 _ _ ?_)
          refine gc_seq fun K61 hK61 => ?_
          refine gc_seq fun K62 hK62 => ?_
          refine gc_region ?_
          refine g_v (.free rfl) rfl rfl (qt_move rfl rfl) ?_
          refine g_v (.free rfl) rfl rfl (qt_lss rfl rfl rfl) ?_
          refine g_nil ?_
          refine gk_then (hK62 _ _ ?_)
          refine gc_cond rfl (fun hc3 => ?_) (fun hc3 => ?_)
          · try simp only [decide_eq_true_eq, decide_eq_false_iff_not, Bool.not_eq_true', Bool.not_eq_false', Bool.not_eq_eq_eq_not, Bool.not_true, Bool.not_false, ne_eq, Decidable.not_not, Classical.not_not] at hc3
            first | (exfalso; omega) | exact absurd rfl hc3 | (simp at hc3)
          · try simp only [decide_eq_true_eq, decide_eq_false_iff_not, Bool.not_eq_true', Bool.not_eq_false', Bool.not_eq_eq_eq_not, Bool.not_true, Bool.not_false, ne_eq, Decidable.not_not, Classical.not_not] at hc3
            refine gc_skip ?_
            refine gk_then (hK61 _ _ ?_)
            refine gc_seq fun K63 hK63 => ?_
            refine gc_seq fun K64 hK64 => ?_
            refine gc_region ?_
            refine g_v (.free rfl) rfl rfl (qt_move rfl rfl) ?_
            refine g_v (.free rfl) rfl rfl (qt_move rfl rfl) ?_
            refine g_v (.free rfl) rfl rfl (qt_neq rfl rfl rfl) ?_
            refine g_nil ?_
            refine gk_then (hK64 _ _ ?_)
            refine gc_cond rfl (fun hc4 => ?_) (fun hc4 => ?_)
            · try simp only [decide_eq_true_eq, decide_eq_false_iff_not, Bool.not_eq_true', Bool.not_eq_false', Bool.not_eq_eq_eq_not, Bool.not_true, Bool.not_false, ne_eq, Decidable.not_not, Classical.not_not] at hc4
              first | (exfalso; omega) | exact absurd rfl hc4 | (simp at hc4)
            · try simp only [decide_eq_true_eq, decide_eq_false_iff_not, Bool.not_eq_true', Bool.not_eq_false', Bool.not_eq_eq_eq_not, Bool.not_true, Bool.not_false, ne_eq, Decidable.not_not, Classical.not_not] at hc4
              refine gc_skip ?_
              refine gk_then (hK63 _ _ ?_)
              refine gc_seq fun K65 hK65 => ?_
              refine gc_region ?_
              refine g_v (.free rfl) rfl rfl (qt_assign rfl rfl) ?_
              refine g_nil ?_
              refine gk_then (hK65 _ _ ?_)
              refine gc_ret ?_
              refine ret_1 rfl rfl  (fun w M => ?_)
              exact ⟨rfl, M.1⟩

set_option maxHeartbeats 1000000 in
set_option maxRecDepth 100000 in
theorem big0 (w : World) (v0 : Value) (a0 : Tra) (r0 : Tra) (r1 : Int) (h0 : InTr w v0 a0) (nl : ¬ (szTr a0 ≤ 1048576)) :
    Calls Try.prog 11 #[v0] w (RetB w true) := by
  have mz0 := mzTr_le a0
  have I0 := h0
  obtain ⟨px1_0, px2_0, px3_0, px4_0, px5_0, px6_0, px7_0, px8_0, px9_0, px10_0, px11_0, px12_0, px13_0, px14_0, px15_0, px16_0, px17_0, px18_0, px19_0, px20_0, px21_0, pk1_0, pk2_0, pk3_0, pk4_0, pk5_0, pk6_0, pk7_0, pk8_0, pk9_0, pk10_0, pk11_0, pk12_0, pk13_0, pk14_0, pk15_0, pk16_0, pk17_0, pk18_0, pk19_0, pk20_0, pk21_0, rfl, _⟩ := h0.form
  go_enter Try.func11, Try.ntmps11
  refine gc_enter (N := 96) rfl (look_cons (k := 0) rfl (look_nil _)) ?_
  refine gc_seq fun K1 hK1 => ?_
  refine gc_region ?_
  refine g_op (.free rfl) fun K3 hK3 => ?_
  refine go_box rfl rfl rfl rfl rfl ?_
  intro B2
  refine hK3 _ _ ?_
  refine g_v (.free rfl) rfl rfl (qt_assign rfl rfl) ?_
  refine g_nil ?_
  refine gk_then (hK1 _ _ ?_)
  refine gc_seq fun K4 hK4 => ?_
  refine gc_region ?_
  refine g_v (.free rfl) rfl rfl (qt_assign rfl rfl) ?_
  refine g_nil ?_
  refine gk_then (hK4 _ _ ?_)
  refine gc_seq fun K5 hK5 => ?_
  refine gc_region ?_
  refine g_v (.free rfl) rfl rfl (qt_loadS (n := 0) rfl rfl Try.underlying29 rfl (by kernel_rfl) rfl) ?_
  refine g_v (.free rfl) rfl rfl (qt_move rfl rfl) ?_
  refine g_q (.free rfl) rfl rfl (qt_call rfl Try.func13 rfl (by decide) rfl (fun w M => szTr_gt w _ _ _ (inTr_below M.1 I0) (by first | assumption | omega) (by first | assumption | omega) (by first | assumption | omega))) ?_
  refine g_v (.free rfl) rfl rfl (qt_assign rfl rfl) ?_
  refine g_nil ?_
  refine gk_then (hK5 _ _ ?_)
  refine gc_seq fun K6 hK6 => ?_
  refine gc_seq fun K7 hK7 => ?_
  refine gc_region ?_
  refine g_v (.free rfl) rfl rfl (qt_move rfl rfl) ?_
  refine g_v (.free rfl) rfl rfl (qt_lss_t rfl rfl rfl (by decide)) ?_
  refine g_nil ?_
  refine gk_then (hK7 _ _ ?_)
  refine gc_cond_t rfl ?_
  refine gc_seq fun K8 hK8 => ?_
  refine gc_region ?_
  refine g_v (.free rfl) rfl rfl (qt_assign rfl rfl) ?_
  refine g_nil ?_
  refine gk_then (hK8 _ _ ?_)
  refine gc_ret ?_
  refine gk_then_ret ?_
  refine ret_1 rfl rfl  (fun w M => ?_)
  exact ⟨rfl, M.1⟩

theorem walk (w : World) (v0 : Value) (a0 : Tra) (r0 : Tra) (r1 : Int) (h0 : InTr w v0 a0) (hr0 : mzTr r0 ≤ 7500000000000000) (hspec : (∀ (w : World) (v0 : Value), RdTr w v0 a0 → Calls Try.prog 38 #[v0] w (RetTrI w r0 r1))) (himpl : (∀ (w : World) (v0 : Value), RdTr w v0 a0 → Calls Try.prog 39 #[v0] w (RetTrI w r0 r1))) :
    Calls Try.prog 11 #[v0] w (RetB w true) := by
  by_cases l0 : szTr a0 ≤ 1048576
  rotate_left
  · exact big0 w v0 a0 r0 r1 h0 l0
  exact main w v0 a0 r0 r1 h0 l0 hr0 hspec himpl

set_option maxHeartbeats 4000000 in
set_option maxRecDepth 100000 in
theorem lifted (os : Os) (started : os.Started) (H : Type) (enc : TypeId × Value → H) :
    ReturnsInHanded {} Try.checked os 11 .any (Rows.fnExactInverseTransformationSpec.pre6 enc Try.prog Try.f11 Rows.fnExactInverseTransformationRow.domain false) (Rows.fnExactInverseTransformationSpec.post enc Try.prog Try.f11 false true false false) := by
  refine returnsInHanded_of_change (C := Try.checked) own started (by kernel_rfl) Try.func11
    (ChangeSpec.witness6 (enc := enc) (C := Try.checked) false ⟨#[], #[.agg #[.int .i64 0, .slice none 0 0, .slice none 0 0, .slice none 0 0, .slice none 0 0, .int .i64 0, .slice none 0 0, .slice none 0 0, .slice none 0 0, .slice none 0 0, .slice none 0 0, .slice none 0 0, .int .i64 0, .slice none 0 0, .slice none 0 0, .slice none 0 0, .slice none 0 0, .int .i64 0, .slice none 0 0, .slice none 0 0, .slice none 0 0, .slice none 0 0, .slice none 0 0, .slice none 0 0, .slice none 0 0]], []⟩ 8 (by kernel_rfl) (by kernel_rfl) (by kernel_rfl) (by kernel_rfl)) ?_
  intro W base args ds gs before hval0 hW _ _
  have hval : ∀ (j : Nat) t v, Try.f11.params[j]? = some t → args[j]? = some v → Value.okWide Try.prog W .any base t v := hval0
  have hW' := hW
  obtain ⟨p, q, hA0, hV, rfl, _, _⟩ := hW
  have hA : DataW.TrodAll enc Try.prog W 0 (fun _ => true) true Try.f11.params.toList args.toList ds p := hA0
  rw [Try.params11] at hA hval
  obtain ⟨v0, vs0, d0, ds0, p0, q0, hargs, rfl, rfl, t0, s0⟩ := trodAll_cons hA
  obtain ⟨rfl, rfl, rfl⟩ := trodAll_nil s0
  obtain rfl : args = #[v0] := by cases args; simp_all
  obtain ⟨rfl, rfl⟩ := trodVars_none hV
  obtain ⟨a0, h0⟩ := open_inTr (hval 0 29 v0 rfl rfl) t0
  clear hA0 hval0
  refine (walk W v0 a0 (fInverseTransformation a0).1 (fInverseTransformation a0).2 h0 (bound_InverseTransformation a0) (fun u v0 k0 => spec_InverseTransformation u v0 a0 k0) (fun u v0 k0 => impl_InverseTransformation u v0 a0 k0)).mono fun e W' ⟨he, hg⟩ => ?_
  subst he
  exact ⟨_, rfl, law_post rfl (by kernel_rfl) hW' (by kernel_rfl) rfl rfl rfl hg⟩

theorem over : Rows.fnExactInverseTransformationRow.holds Try.pinned (OpenSpec.ofChange Rows.fnExactInverseTransformationSpec) :=
  OpenClaim.holds_of_wide 11 Try.f11 rfl rfl rfl rfl rfl rfl rfl ⟨rfl, rfl, rfl, rfl, rfl⟩ rfl rfl rfl rfl rfl (by kernel_rfl) Try.func11 (by kernel_rfl)
    (of_decide_eq_true (by kernel_rfl)) (by unfold Func.isWrapper; first | (rw [if_pos (by decide +kernel)]; kernel_rfl) | (rw [if_neg (by decide +kernel)]; exact ⟨rfl, rfl⟩))
    (fun os started H enc _ => lifted os started H enc)

theorem proved : Rows.FnExactInverseTransformationSaid := over
end Go.Proofs.Ytpppoipaabofgaa.exactInverseTransformation
