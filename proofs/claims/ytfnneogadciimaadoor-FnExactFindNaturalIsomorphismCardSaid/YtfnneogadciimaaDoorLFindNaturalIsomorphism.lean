import Derived.Test.YtfnneogadciimaaDoorA1
import Derived.Test.YtfnneogadciimaaDoorA3
import Derived.Test.YtfnneogadciimaaDoorA5
import Derived.Test.YtfnneogadciimaaDoorA11
import Derived.Test.YtfnneogadciimaaDoorA24
import Derived.Test.YtfnneogadciimaaDoorTie
import Derived.Test.YtfnneogadciimaaDoorCards
import Derived.ProofKit
import Derived.LaidMore
import Derived.OpenShut
import Derived.Stop.Joined
import Derived.SevenTiedAt
import Derived.Test.YtfnneogadciimaaDoorAX

set_option linter.unusedSimpArgs false
set_option linter.unusedVariables false
set_option linter.unusedSectionVars false
namespace Go.Proofs.YtfnneogadciimaaDoor.exactFindNaturalIsomorphism
open Go.ChangeShapes Go.WideShapes Go.ChangeAt Go.RowKit
set_option maxHeartbeats 4000000 in
set_option maxRecDepth 100000 in
theorem main (w : World) (v0 : Value) (a0 : Fct) (v1 : Value) (a1 : Fct) (r0 : List Int) (r1 : Int) (h0 : InF w v0 a0) (l0 : szFn a0 ≤ 1048576) (h1 : InF w v1 a1) (l1 : szFn a0 + szFn a1 ≤ 1048576) (hT : TabW w) (hspec : (∀ (w : World) (v0 : Value) (v1 : Value), RdF w v0 a0 → RdF w v1 a1 → Calls Tryd.prog 27 #[v0, v1] w (RetLI w r0 r1))) (himpl : (∀ (w : World) (v0 : Value) (v1 : Value), RdF w v0 a0 → RdF w v1 a1 → TabW w → Calls Tryd.prog 28 #[v0, v1] w (RetLI w r0 r1))) :
    Calls Tryd.prog 6 #[v0, v1] w (RetB w true) := by
  have R0 := h0.rd (by omega)
  have mz0 := mzF_le a0
  have I0 := h0
  obtain ⟨px1_0, px2_0, px3_0, px4_0, px5_0, px6_0, px7_0, px8_0, px9_0, px10_0, pk1_0, pk2_0, pk3_0, pk4_0, pk5_0, pk6_0, pk7_0, pk8_0, pk9_0, pk10_0, rfl, _⟩ := h0.form
  have R1 := h1.rd (by omega)
  have mz1 := mzF_le a1
  have I1 := h1
  obtain ⟨px1_1, px2_1, px3_1, px4_1, px5_1, px6_1, px7_1, px8_1, px9_1, px10_1, pk1_1, pk2_1, pk3_1, pk4_1, pk5_1, pk6_1, pk7_1, pk8_1, pk9_1, pk10_1, rfl, _⟩ := h1.form
  go_enter Tryd.func6, Tryd.ntmps6
  refine gc_enter (N := 119) rfl (look_cons (k := 0) rfl (look_cons (k := 1) rfl (look_nil _))) ?_
  refine gc_seq fun K1 hK1 => ?_
  refine gc_region ?_
  refine g_op (.free rfl) fun K3 hK3 => ?_
  refine go_box rfl rfl rfl rfl rfl ?_
  intro B2
  refine hK3 _ _ ?_
  refine g_op (.free rfl) fun K5 hK5 => ?_
  refine go_box rfl rfl rfl rfl rfl ?_
  intro B4
  refine hK5 _ _ ?_
  refine g_v (.free rfl) rfl rfl (qt_assign rfl rfl) ?_
  refine g_nil ?_
  refine gk_then (hK1 _ _ ?_)
  refine gc_seq fun K6 hK6 => ?_
  refine gc_region ?_
  refine g_v (.free rfl) rfl rfl (qt_assign rfl rfl) ?_
  refine g_nil ?_
  refine gk_then (hK6 _ _ ?_)
  refine gc_seq fun K7 hK7 => ?_
  refine gc_region ?_
  refine g_v (.free rfl) rfl rfl (qt_loadS (n := 0) rfl rfl Tryd.underlying40 rfl (by kernel_rfl) rfl) ?_
  refine g_v (.free rfl) rfl rfl (qt_move rfl rfl) ?_
  refine g_q (.free rfl) rfl rfl (qt_call rfl Tryd.func18 rfl (by decide) rfl (fun w M => szF_le w _ _ _ (inF_below M.1 I0) (by first | assumption | omega) (by first | assumption | omega) (by first | assumption | omega))) ?_
  refine g_v (.free rfl) rfl rfl (qt_assign rfl rfl) ?_
  refine g_nil ?_
  refine gk_then (hK7 _ _ ?_)
  refine gc_seq fun K8 hK8 => ?_
  refine gc_seq fun K9 hK9 => ?_
  refine gc_region ?_
  refine g_v (.free rfl) rfl rfl (qt_move rfl rfl) ?_
  refine g_v (.free rfl) rfl rfl (qt_lss rfl rfl rfl) ?_
  refine g_nil ?_
  refine gk_then (hK9 _ _ ?_)
  refine gc_cond rfl (fun hc0 => ?_) (fun hc0 => ?_)
  · try simp only [decide_eq_true_eq, decide_eq_false_iff_not, Bool.not_eq_true', Bool.not_eq_false', Bool.not_eq_eq_eq_not, Bool.not_true, Bool.not_false, ne_eq, Decidable.not_not, Classical.not_not] at hc0
    first | (exfalso; omega) | exact absurd rfl hc0 | (simp at hc0)
  · try simp only [decide_eq_true_eq, decide_eq_false_iff_not, Bool.not_eq_true', Bool.not_eq_false', Bool.not_eq_eq_eq_not, Bool.not_true, Bool.not_false, ne_eq, Decidable.not_not, Classical.not_not] at hc0
    refine gc_skip ?_
    refine gk_then (hK8 _ _ ?_)
    refine gc_seq fun K10 hK10 => ?_
    refine gc_region ?_
    refine g_v (.free rfl) rfl rfl (qt_loadS (n := 1) rfl rfl Tryd.underlying40 rfl (by kernel_rfl) rfl) ?_
    refine g_v (.free rfl) rfl rfl (qt_move rfl rfl) ?_
    refine g_q (.free rfl) rfl rfl (qt_call rfl Tryd.func18 rfl (by decide) rfl (fun w M => szF_le w _ _ _ (inF_below M.1 I1) (by first | assumption | omega) (by first | assumption | omega) (by first | assumption | omega))) ?_
    refine g_v (.free rfl) rfl rfl (qt_assign rfl rfl) ?_
    refine g_nil ?_
    refine gk_then (hK10 _ _ ?_)
    refine gc_seq fun K11 hK11 => ?_
    refine gc_seq fun K12 hK12 => ?_
    refine gc_region ?_
    refine g_v (.free rfl) rfl rfl (qt_move rfl rfl) ?_
    refine g_v (.free rfl) rfl rfl (qt_lss rfl rfl rfl) ?_
    refine g_nil ?_
    refine gk_then (hK12 _ _ ?_)
    refine gc_cond rfl (fun hc1 => ?_) (fun hc1 => ?_)
    · try simp only [decide_eq_true_eq, decide_eq_false_iff_not, Bool.not_eq_true', Bool.not_eq_false', Bool.not_eq_eq_eq_not, Bool.not_true, Bool.not_false, ne_eq, Decidable.not_not, Classical.not_not] at hc1
      first | (exfalso; omega) | exact absurd rfl hc1 | (simp at hc1)
    · try simp only [decide_eq_true_eq, decide_eq_false_iff_not, Bool.not_eq_true', Bool.not_eq_false', Bool.not_eq_eq_eq_not, Bool.not_true, Bool.not_false, ne_eq, Decidable.not_not, Classical.not_not] at hc1
      refine gc_skip ?_
      refine gk_then (hK11 _ _ ?_)
      refine gc_seq fun K13 hK13 => ?_
      try simp only [List.nil_append, List.cons_append, List.append_assoc, List.set_cons_succ, List.set_cons_zero]
      refine gc_cut ([(0, _), (1, _), (2, _), (3, _), (4, _), (5, _), (21, _), (26, _)] : Env) (fun s : (Option Addr) × Nat => (fun (jx1 : Option Addr) (jk1 : Nat) => ([(6, .slice jx1 r0.length jk1), (7, .int .i64 r1)] : Env)) s.1 s.2) (fun s : (Option Addr) × Nat => (fun (jx1 : Option Addr) (jk1 : Nat) => ([] : List (Nat × Itm))) s.1 s.2) (fun s : (Option Addr) × Nat => (fun (jx1 : Option Addr) (jk1 : Nat) => ([own1I (.slice jx1 r0.length jk1) r0] : List Itm)) s.1 s.2) (sub_cons rfl (sub_cons rfl (sub_cons rfl (sub_cons rfl (sub_cons rfl (sub_cons rfl (sub_cons rfl (sub_cons rfl sub_nil)))))))) ?_ (fun HJ14 => ?_)
      · rintro ⟨jx1, jk1⟩
        simp only [updL, List.foldl_cons, List.foldl_nil, List.set_cons_succ, List.set_cons_zero, List.cons_append, List.nil_append]
        refine gk_then (hK13 _ _ ?_)
        refine gc_seq fun K15 hK15 => ?_
        refine gc_region ?_
        refine g_v (.free rfl) rfl rfl (qt_loadS (n := 0) rfl rfl Tryd.underlying40 rfl (by kernel_rfl) rfl) ?_
        refine g_op (.free rfl) fun K17 hK17 => ?_
        refine go_callFn1 rfl rfl rfl Tryd.func20 rfl (by decide) rfl (fun w M => toF_any w _ _ (mem_rdF M R0)) ?_
        intro fx1_16 fk1_16 fx2_16 fk2_16 fx3_16 fk3_16 fx4_16 fk4_16 fx5_16 fk5_16 fx6_16 fk6_16 fx7_16 fk7_16 fx8_16 fk8_16 fx9_16 fk9_16 fx10_16 fk10_16
        refine hK17 _ _ ?_
        refine g_op (.free rfl) fun K19 hK19 => ?_
        refine go_alloc (z := (.agg #[.int .i64 0, .slice none 0 0, .slice none 0 0, .slice none 0 0, .slice none 0 0, .int .i64 0, .slice none 0 0, .slice none 0 0, .slice none 0 0, .slice none 0 0, .slice none 0 0, .slice none 0 0])) (cs := [.int .i64 0, .slice none 0 0, .slice none 0 0, .slice none 0 0, .slice none 0 0, .int .i64 0, .slice none 0 0, .slice none 0 0, .slice none 0 0, .slice none 0 0, .slice none 0 0, .slice none 0 0]) rfl rfl rfl (fun w => by kernel_rfl) rfl ?_
        intro B18
        refine hK19 _ _ ?_
        refine g_op (.free rfl) fun K20 hK20 => ?_
        refine go_storeS (n := 4) rfl rfl rfl rfl (by kernel_rfl) rfl rfl rfl ?_
        refine hK20 _ _ ?_
        refine g_nil ?_
        refine gk_then (hK15 _ _ ?_)
        refine gc_seq fun K21 hK21 => ?_
        refine gc_region ?_
        refine g_v (.free rfl) rfl rfl (qt_loadS (n := 1) rfl rfl Tryd.underlying40 rfl (by kernel_rfl) rfl) ?_
        refine g_op (.free rfl) fun K23 hK23 => ?_
        refine go_callFn1 rfl rfl rfl Tryd.func20 rfl (by decide) rfl (fun w M => toF_any w _ _ (mem_rdF M R1)) ?_
        intro fx1_22 fk1_22 fx2_22 fk2_22 fx3_22 fk3_22 fx4_22 fk4_22 fx5_22 fk5_22 fx6_22 fk6_22 fx7_22 fk7_22 fx8_22 fk8_22 fx9_22 fk9_22 fx10_22 fk10_22
        refine hK23 _ _ ?_
        refine g_op (.free rfl) fun K25 hK25 => ?_
        refine go_alloc (z := (.agg #[.int .i64 0, .slice none 0 0, .slice none 0 0, .slice none 0 0, .slice none 0 0, .int .i64 0, .slice none 0 0, .slice none 0 0, .slice none 0 0, .slice none 0 0, .slice none 0 0, .slice none 0 0])) (cs := [.int .i64 0, .slice none 0 0, .slice none 0 0, .slice none 0 0, .slice none 0 0, .int .i64 0, .slice none 0 0, .slice none 0 0, .slice none 0 0, .slice none 0 0, .slice none 0 0, .slice none 0 0]) rfl rfl rfl (fun w => by kernel_rfl) rfl ?_
        intro B24
        refine hK25 _ _ ?_
        refine g_op (.free rfl) fun K26 hK26 => ?_
        refine go_storeS (n := 6) rfl rfl rfl rfl (by kernel_rfl) rfl rfl rfl ?_
        refine hK26 _ _ ?_
        refine g_nil ?_
        refine gk_then (hK21 _ _ ?_)
        refine gc_seq fun K27 hK27 => ?_
        refine gc_region ?_
        refine g_v (.free rfl) rfl rfl (qt_loadS (n := 4) rfl rfl Tryd.underlying45 rfl (by kernel_rfl) rfl) ?_
        refine g_v (.free rfl) rfl rfl (qt_loadS (n := 6) rfl rfl Tryd.underlying45 rfl (by kernel_rfl) rfl) ?_
        refine g_op (.free rfl) fun K29 hK29 => ?_
        refine go_callLI1 rfl rfl rfl Tryd.func28 rfl (by decide) rfl (fun w M => himpl w _ _ ((mem_ownF (n := 3) M rfl).rd) ((mem_ownF (n := 5) M rfl).rd) (hT.mem M)) ?_
        intro ca28 cb28 cc28
        refine hK29 _ _ ?_
        refine g_v (.free rfl) rfl rfl (qt_move rfl rfl) ?_
        refine g_v (.free rfl) rfl rfl (qt_extract rfl rfl rfl) ?_
        refine g_v (.free rfl) rfl rfl (qt_extract rfl rfl rfl) ?_
        refine g_v (.free rfl) rfl rfl (qt_assign rfl rfl) ?_
        refine g_v (.free rfl) rfl rfl (qt_assign rfl rfl) ?_
        refine g_nil ?_
        refine gk_then (hK27 _ _ ?_)
        refine gc_seq fun K30 hK30 => ?_
        refine gc_seq fun K31 hK31 => ?_
        refine gc_region ?_
        refine g_v (.free rfl) rfl rfl (qt_move rfl rfl) ?_
        refine g_v (.free rfl) rfl rfl (qt_move rfl rfl) ?_
        refine g_q (.free rfl) rfl rfl (qt_call rfl Tryd.func29 rfl (by decide) rfl (fun w M => eq_any w _ _ _ _ ((mem_own1 (n := 7) M rfl).rd) ((mem_own1 (n := 2) M rfl).rd))) ?_
        refine g_v (.free rfl) rfl rfl (qt_not rfl rfl) ?_
        refine g_splitv (.free rfl) rfl rfl (qt_move rfl rfl) (fun hs12_4 => ?_) (fun hs12_4 => ?_)
        · try simp only [decide_eq_true_eq, decide_eq_false_iff_not, Bool.not_eq_true', Bool.not_eq_false', Bool.not_eq_eq_eq_not, Bool.not_true, Bool.not_false, ne_eq, Decidable.not_not, Classical.not_not] at hs12_4
          first | (exfalso; omega) | exact absurd rfl hs12_4 | (simp at hs12_4)
        · try simp only [decide_eq_true_eq, decide_eq_false_iff_not, Bool.not_eq_true', Bool.not_eq_false', Bool.not_eq_eq_eq_not, Bool.not_true, Bool.not_false, ne_eq, Decidable.not_not, Classical.not_not] at hs12_4
          refine g_v (.held _ _ _ rfl rfl rfl) rfl rfl (qt_move rfl rfl) ?_
          refine g_v (.held _ _ _ rfl rfl rfl) rfl rfl (qt_move rfl rfl) ?_
          refine g_v (.held _ _ _ rfl rfl rfl) rfl rfl (qt_neq_f rfl rfl rfl (fun h => h rfl)) ?_
          refine g_v (.free rfl) rfl rfl (qt_pick_f rfl rfl rfl) ?_
          refine g_nil ?_
          refine gk_then (hK31 _ _ ?_)
          refine gc_cond_f rfl ?_
          refine gc_skip ?_
          refine gk_then (hK30 _ _ ?_)
          refine gc_seq fun K32 hK32 => ?_
          refine gc_seq fun K33 hK33 => ?_
          try simp only [List.nil_append, List.cons_append, List.append_assoc, List.set_cons_succ, List.set_cons_zero]
          refine ga_start _ (fun w M => M) ?_
          refine ga_v 0 rfl (by kernel_rfl) (by kernel_rfl) (by kernel_rfl) (.free rfl) rfl rfl (qt_loadS (n := 4) rfl rfl Tryd.underlying45 rfl (by kernel_rfl) rfl) (fun _ _ _ h => h) ?_
          refine ga_v 1 rfl (by kernel_rfl) (by kernel_rfl) (by kernel_rfl) (.free rfl) rfl rfl (qt_loadS (n := 0) rfl rfl Tryd.underlying40 rfl (by kernel_rfl) rfl) (fun _ _ _ h => h) ?_
          refine ga_op 2 (by kernel_rfl) rfl (.free rfl) fun K35 hK35 => ?_
          refine go_callFn1 rfl rfl rfl Tryd.func20 rfl (by decide) rfl (fun w M => toF_any w _ _ (mem_rdF M R0)) ?_
          intro fx1_34 fk1_34 fx2_34 fk2_34 fx3_34 fk3_34 fx4_34 fk4_34 fx5_34 fk5_34 fx6_34 fk6_34 fx7_34 fk7_34 fx8_34 fk8_34 fx9_34 fk9_34 fx10_34 fk10_34
          refine hK35 _ _ (fun w M => (mem_take 8 M :)) ?_
          refine ga_op 3 (by kernel_rfl) rfl (.free rfl) fun K36 hK36 => ?_
          refine go_q rfl rfl (qt_call rfl Tryd.func23 rfl (by decide) rfl (fun w M => eqF_refl_any w _ _ _ ((mem_ownF (n := 3) M rfl).rd) ((mem_ownF (n := 8) M rfl).rd))) ?_
          refine hK36 _ _ (fun w M => (mem_take 8 M :)) ?_
          refine ga_v 4 rfl (by kernel_rfl) (by kernel_rfl) (by kernel_rfl) (.free rfl) rfl rfl (qt_not rfl rfl) (fun _ _ _ h => h) ?_
          refine ga_done (by kernel_rfl) ?_
          refine gk_then (hK33 _ _ ?_)
          refine gc_cond_f rfl ?_
          refine gc_skip ?_
          refine gk_then (hK32 _ _ ?_)
          refine gc_seq fun K37 hK37 => ?_
          refine gc_seq fun K38 hK38 => ?_
          try simp only [List.nil_append, List.cons_append, List.append_assoc, List.set_cons_succ, List.set_cons_zero]
          refine ga_start _ (fun w M => M) ?_
          refine ga_v 0 rfl (by kernel_rfl) (by kernel_rfl) (by kernel_rfl) (.free rfl) rfl rfl (qt_loadS (n := 6) rfl rfl Tryd.underlying45 rfl (by kernel_rfl) rfl) (fun _ _ _ h => h) ?_
          refine ga_v 1 rfl (by kernel_rfl) (by kernel_rfl) (by kernel_rfl) (.free rfl) rfl rfl (qt_loadS (n := 1) rfl rfl Tryd.underlying40 rfl (by kernel_rfl) rfl) (fun _ _ _ h => h) ?_
          refine ga_op 2 (by kernel_rfl) rfl (.free rfl) fun K40 hK40 => ?_
          refine go_callFn1 rfl rfl rfl Tryd.func20 rfl (by decide) rfl (fun w M => toF_any w _ _ (mem_rdF M R1)) ?_
          intro fx1_39 fk1_39 fx2_39 fk2_39 fx3_39 fk3_39 fx4_39 fk4_39 fx5_39 fk5_39 fx6_39 fk6_39 fx7_39 fk7_39 fx8_39 fk8_39 fx9_39 fk9_39 fx10_39 fk10_39
          refine hK40 _ _ (fun w M => (mem_take 9 M :)) ?_
          refine ga_op 3 (by kernel_rfl) rfl (.free rfl) fun K41 hK41 => ?_
          refine go_q rfl rfl (qt_call rfl Tryd.func23 rfl (by decide) rfl (fun w M => eqF_refl_any w _ _ _ ((mem_ownF (n := 5) M rfl).rd) ((mem_ownF (n := 9) M rfl).rd))) ?_
          refine hK41 _ _ (fun w M => (mem_take 9 M :)) ?_
          refine ga_v 4 rfl (by kernel_rfl) (by kernel_rfl) (by kernel_rfl) (.free rfl) rfl rfl (qt_not rfl rfl) (fun _ _ _ h => h) ?_
          refine ga_done (by kernel_rfl) ?_
          refine gk_then (hK38 _ _ ?_)
          refine gc_cond_f rfl ?_
          refine gc_skip ?_
          refine gk_then (hK37 _ _ ?_)
          refine gc_seq fun K42 hK42 => ?_
          refine gc_region ?_
          refine g_v (.free rfl) rfl rfl (qt_assign rfl rfl) ?_
          refine g_nil ?_
          refine gk_then (hK42 _ _ ?_)
          refine gc_seq fun K43 hK43 => ?_
          refine gc_region ?_
          refine g_v (.free rfl) rfl rfl (qt_loadS (n := 4) rfl rfl Tryd.underlying45 rfl (by kernel_rfl) rfl) ?_
          refine g_v (.free rfl) rfl rfl (qt_move rfl rfl) ?_
          refine g_op (.free rfl) fun K44 hK44 => ?_
          refine go_one (n := 3) rfl rfl rfl Tryd.func24 rfl (by decide) rfl rfl (fun R w M => markF1_any _ w R _ _ _ _ _ _ _ _ _ _ _ _ (by omega) (by omega) M) ?_
          refine hK44 _ _ ?_
          refine g_v (.free rfl) rfl rfl (qt_assign rfl rfl) ?_
          refine g_nil ?_
          refine gk_then (hK43 _ _ ?_)
          refine gc_seq fun K45 hK45 => ?_
          refine gc_region ?_
          refine g_v (.free rfl) rfl rfl (qt_loadS (n := 6) rfl rfl Tryd.underlying45 rfl (by kernel_rfl) rfl) ?_
          refine g_v (.free rfl) rfl rfl (qt_move rfl rfl) ?_
          refine g_op (.free rfl) fun K46 hK46 => ?_
          refine go_one (n := 5) rfl rfl rfl Tryd.func24 rfl (by decide) rfl rfl (fun R w M => markF1_any _ w R _ _ _ _ _ _ _ _ _ _ _ _ (by omega) (by omega) M) ?_
          refine hK46 _ _ ?_
          refine g_v (.free rfl) rfl rfl (qt_assign rfl rfl) ?_
          refine g_nil ?_
          refine gk_then (hK45 _ _ ?_)
          refine gc_seq fun K47 hK47 => ?_
          refine gc_seq fun K48 hK48 => ?_
          refine gc_region ?_
          refine g_v (.free rfl) rfl rfl (qt_move rfl rfl) ?_
          refine g_v (.free rfl) rfl rfl (qt_lss rfl rfl rfl) ?_
          refine g_splitv (.free rfl) rfl rfl (qt_move rfl rfl) (fun hs21_2 => ?_) (fun hs21_2 => ?_)
          · try simp only [decide_eq_true_eq, decide_eq_false_iff_not, Bool.not_eq_true', Bool.not_eq_false', Bool.not_eq_eq_eq_not, Bool.not_true, Bool.not_false, ne_eq, Decidable.not_not, Classical.not_not] at hs21_2
            first | (exfalso; omega) | exact absurd rfl hs21_2 | (simp at hs21_2)
          · try simp only [decide_eq_true_eq, decide_eq_false_iff_not, Bool.not_eq_true', Bool.not_eq_false', Bool.not_eq_eq_eq_not, Bool.not_true, Bool.not_false, ne_eq, Decidable.not_not, Classical.not_not] at hs21_2
            refine g_v (.held _ _ _ rfl rfl rfl) rfl rfl (qt_move rfl rfl) ?_
            refine g_v (.held _ _ _ rfl rfl rfl) rfl rfl (qt_move rfl rfl) ?_
            refine g_q (.held _ _ _ rfl rfl rfl) rfl rfl (qt_call rfl Tryd.func29 rfl (by decide) rfl (fun w M => eq_any w _ _ _ _ ((mem_own1 (n := 7) M rfl).rd) ((mem_own1 (n := 2) M rfl).rd))) ?_
            refine g_v (.held _ _ _ rfl rfl rfl) rfl rfl (qt_not rfl rfl) ?_
            refine g_v (.free rfl) rfl rfl (qt_pick_f rfl rfl rfl) ?_
            refine g_splitv (.free rfl) rfl rfl (qt_move rfl rfl) (fun hs21_8 => ?_) (fun hs21_8 => ?_)
            · try simp only [decide_eq_true_eq, decide_eq_false_iff_not, Bool.not_eq_true', Bool.not_eq_false', Bool.not_eq_eq_eq_not, Bool.not_true, Bool.not_false, ne_eq, Decidable.not_not, Classical.not_not] at hs21_8
              first | (exfalso; omega) | exact absurd rfl hs21_8 | (simp at hs21_8)
            · try simp only [decide_eq_true_eq, decide_eq_false_iff_not, Bool.not_eq_true', Bool.not_eq_false', Bool.not_eq_eq_eq_not, Bool.not_true, Bool.not_false, ne_eq, Decidable.not_not, Classical.not_not] at hs21_8
              refine g_v (.held _ _ _ rfl rfl rfl) rfl rfl (qt_move rfl rfl) ?_
              refine g_v (.held _ _ _ rfl rfl rfl) rfl rfl (qt_move rfl rfl) ?_
              refine g_v (.held _ _ _ rfl rfl rfl) rfl rfl (qt_neq_f rfl rfl rfl (fun h => h rfl)) ?_
              refine g_v (.free rfl) rfl rfl (qt_pick_f rfl rfl rfl) ?_
              refine g_nil ?_
              refine gk_then (hK48 _ _ ?_)
              refine gc_cond_f rfl ?_
              refine gc_skip ?_
              refine gk_then (hK47 _ _ ?_)
              refine gc_seq fun K49 hK49 => ?_
              refine gc_region ?_
              refine g_v (.free rfl) rfl rfl (qt_assign rfl rfl) ?_
              refine g_nil ?_
              refine gk_then (hK49 _ _ ?_)
              refine gc_seq fun K50 hK50 => ?_
              refine gc_region ?_
              refine g_v (.free rfl) rfl rfl (qt_move rfl rfl) ?_
              refine g_v (.free rfl) rfl rfl (qt_move rfl rfl) ?_
              refine g_op (.free rfl) fun K51 hK51 => ?_
              refine go_mark (own1I _ (upTo _ _)) (n := 7) rfl rfl rfl Tryd.func30 rfl (by decide) rfl rfl (fun w S hS => markS_any w S _ _ _ hS (by omega) (by omega)) ?_
              refine hK51 _ _ ?_
              refine g_v (.free rfl) rfl rfl (qt_assign rfl rfl) ?_
              refine g_nil ?_
              refine gk_then (hK50 _ _ ?_)
              refine gc_seq fun K52 hK52 => ?_
              refine gc_region ?_
              refine g_v (.free rfl) rfl rfl (qt_assign rfl rfl) ?_
              refine g_nil ?_
              refine gk_then (hK52 _ _ ?_)
              refine gc_seq fun K53 hK53 => ?_
              refine gc_region ?_
              refine g_v (.free rfl) rfl rfl (qt_move rfl rfl) ?_
              refine g_v (.free rfl) rfl rfl (qt_move rfl rfl) ?_
              refine g_q (.free rfl) rfl rfl (qt_call rfl Tryd.func31 rfl (by decide) rfl (fun w M => held_any w _ _ _ ((mem_own1 (n := 7) M rfl).rd) (by first | assumption | omega) (by first | assumption | omega))) ?_
              refine g_v (.free rfl) rfl rfl (qt_assign rfl rfl) ?_
              refine g_nil ?_
              refine gk_then (hK53 _ _ ?_)
              refine gc_seq fun K54 hK54 => ?_
              refine gc_seq fun K55 hK55 => ?_
              refine gc_region ?_
              refine g_v (.free rfl) rfl rfl (qt_move rfl rfl) ?_
              refine g_v (.free rfl) rfl rfl (qt_lss rfl rfl rfl) ?_
              refine g_nil ?_
              refine gk_then (hK55 _ _ ?_)
              refine gc_cond rfl (fun hc2 => ?_) (fun hc2 => ?_)
              · try simp only [decide_eq_true_eq, decide_eq_false_iff_not, Bool.not_eq_true', Bool.not_eq_false', Bool.not_eq_eq_eq_not, Bool.not_true, Bool.not_false, ne_eq, Decidable.not_not, Classical.not_not] at hc2
                first | (exfalso; omega) | exact absurd rfl hc2 | (simp at hc2)
              · try simp only [decide_eq_true_eq, decide_eq_false_iff_not, Bool.not_eq_true', Bool.not_eq_false', Bool.not_eq_eq_eq_not, Bool.not_true, Bool.not_false, ne_eq, Decidable.not_not, Classical.not_not] at hc2
                refine gc_skip ?_
                refine gk_then (hK54 _ _ ?_)
                refine gc_seq fun K56 hK56 => ?_
                refine gc_seq fun K57 hK57 => ?_
                refine gc_region ?_
                refine g_v (.free rfl) rfl rfl (qt_move rfl rfl) ?_
                refine g_v (.free rfl) rfl rfl (qt_move rfl rfl) ?_
                refine g_v (.free rfl) rfl rfl (qt_neq rfl rfl rfl) ?_
                refine g_nil ?_
                refine gk_then (hK57 _ _ ?_)
                refine gc_cond rfl (fun hc3 => ?_) (fun hc3 => ?_)
                · try simp only [decide_eq_true_eq, decide_eq_false_iff_not, Bool.not_eq_true', Bool.not_eq_false', Bool.not_eq_eq_eq_not, Bool.not_true, Bool.not_false, ne_eq, Decidable.not_not, Classical.not_not] at hc3
                  first | (exfalso; omega) | exact absurd rfl hc3 | (simp at hc3)
                · try simp only [decide_eq_true_eq, decide_eq_false_iff_not, Bool.not_eq_true', Bool.not_eq_false', Bool.not_eq_eq_eq_not, Bool.not_true, Bool.not_false, ne_eq, Decidable.not_not, Classical.not_not] at hc3
                  refine gc_skip ?_
                  refine gk_then (hK56 _ _ ?_)
                  refine gc_seq fun K58 hK58 => ?_
                  try simp only [List.nil_append, List.cons_append, List.append_assoc, List.set_cons_succ, List.set_cons_zero]
                  refine gc_cut ([(0, _), (1, _), (2, _), (3, _), (4, _), (5, _), (6, _), (7, _), (8, _), (9, _), (10, _), (11, _), (12, _), (13, _), (14, _), (21, _), (26, _), (53, _), (58, _), (63, _), (82, _), (90, _), (93, _)] : Env) (fun s : (Option Addr) × Nat => (fun (jx1 : Option Addr) (jk1 : Nat) => ([(15, .slice jx1 r0.length jk1), (16, .int .i64 r1)] : Env)) s.1 s.2) (fun s : (Option Addr) × Nat => (fun (jx1 : Option Addr) (jk1 : Nat) => ([] : List (Nat × Itm))) s.1 s.2) (fun s : (Option Addr) × Nat => (fun (jx1 : Option Addr) (jk1 : Nat) => ([own1I (.slice jx1 r0.length jk1) r0] : List Itm)) s.1 s.2) (sub_cons rfl (sub_cons rfl (sub_cons rfl (sub_cons rfl (sub_cons rfl (sub_cons rfl (sub_cons rfl (sub_cons rfl (sub_cons rfl (sub_cons rfl (sub_cons rfl (sub_cons rfl (sub_cons rfl (sub_cons rfl (sub_cons rfl (sub_cons rfl (sub_cons rfl (sub_cons rfl (sub_cons rfl (sub_cons rfl (sub_cons rfl (sub_cons rfl (sub_cons rfl sub_nil))))))))))))))))))))))) ?_ (fun HJ59 => ?_)
                  · rintro ⟨jx1, jk1⟩
                    simp only [updL, List.foldl_cons, List.foldl_nil, List.set_cons_succ, List.set_cons_zero, List.cons_append, List.nil_append]
                    refine gk_then (hK58 _ _ ?_)
                    refine gc_seq fun K60 hK60 => ?_
                    refine gc_seq fun K61 hK61 => ?_
                    refine gc_region ?_
                    refine g_v (.free rfl) rfl rfl (qt_move rfl rfl) ?_
                    refine g_v (.free rfl) rfl rfl (qt_move rfl rfl) ?_
                    refine g_q (.free rfl) rfl rfl (qt_call rfl Tryd.func29 rfl (by decide) rfl (fun w M => eq_any w _ _ _ _ ((mem_own1 (n := 10) M rfl).rd) ((mem_own1 (n := 2) M rfl).rd))) ?_
                    refine g_v (.free rfl) rfl rfl (qt_not rfl rfl) ?_
                    refine g_splitv (.free rfl) rfl rfl (qt_move rfl rfl) (fun hs32_4 => ?_) (fun hs32_4 => ?_)
                    · try simp only [decide_eq_true_eq, decide_eq_false_iff_not, Bool.not_eq_true', Bool.not_eq_false', Bool.not_eq_eq_eq_not, Bool.not_true, Bool.not_false, ne_eq, Decidable.not_not, Classical.not_not] at hs32_4
                      first | (exfalso; omega) | exact absurd rfl hs32_4 | (simp at hs32_4)
                    · try simp only [decide_eq_true_eq, decide_eq_false_iff_not, Bool.not_eq_true', Bool.not_eq_false', Bool.not_eq_eq_eq_not, Bool.not_true, Bool.not_false, ne_eq, Decidable.not_not, Classical.not_not] at hs32_4
                      refine g_v (.held _ _ _ rfl rfl rfl) rfl rfl (qt_move rfl rfl) ?_
                      refine g_v (.held _ _ _ rfl rfl rfl) rfl rfl (qt_move rfl rfl) ?_
                      refine g_v (.held _ _ _ rfl rfl rfl) rfl rfl (qt_neq_f rfl rfl rfl (fun h => h rfl)) ?_
                      refine g_v (.free rfl) rfl rfl (qt_pick_f rfl rfl rfl) ?_
                      refine g_nil ?_
                      refine gk_then (hK61 _ _ ?_)
                      refine gc_cond_f rfl ?_
                      refine gc_skip ?_
                      refine gk_then (hK60 _ _ ?_)
                      refine gc_seq fun K62 hK62 => ?_
                      refine gc_region ?_
                      refine g_v (.free rfl) rfl rfl (qt_assign rfl rfl) ?_
                      refine g_nil ?_
                      refine gk_then (hK62 _ _ ?_)
                      refine gc_seq fun K63 hK63 => ?_
                      refine gc_region ?_
                      refine g_v (.free rfl) rfl rfl (qt_move rfl rfl) ?_
                      refine g_v (.free rfl) rfl rfl (qt_move rfl rfl) ?_
                      refine g_q (.free rfl) rfl rfl (qt_call rfl Tryd.func31 rfl (by decide) rfl (fun w M => held_any w _ _ _ ((mem_own1 (n := 7) M rfl).rd) (by first | assumption | omega) (by first | assumption | omega))) ?_
                      refine g_v (.free rfl) rfl rfl (qt_assign rfl rfl) ?_
                      refine g_nil ?_
                      refine gk_then (hK63 _ _ ?_)
                      refine gc_seq fun K64 hK64 => ?_
                      refine gc_seq fun K65 hK65 => ?_
                      refine gc_region ?_
                      refine g_v (.free rfl) rfl rfl (qt_move rfl rfl) ?_
                      refine g_v (.free rfl) rfl rfl (qt_lss rfl rfl rfl) ?_
                      refine g_nil ?_
                      refine gk_then (hK65 _ _ ?_)
                      refine gc_cond rfl (fun hc4 => ?_) (fun hc4 => ?_)
                      · try simp only [decide_eq_true_eq, decide_eq_false_iff_not, Bool.not_eq_true', Bool.not_eq_false', Bool.not_eq_eq_eq_not, Bool.not_true, Bool.not_false, ne_eq, Decidable.not_not, Classical.not_not] at hc4
                        first | (exfalso; omega) | exact absurd rfl hc4 | (simp at hc4)
                      · try simp only [decide_eq_true_eq, decide_eq_false_iff_not, Bool.not_eq_true', Bool.not_eq_false', Bool.not_eq_eq_eq_not, Bool.not_true, Bool.not_false, ne_eq, Decidable.not_not, Classical.not_not] at hc4
                        refine gc_skip ?_
                        refine gk_then (hK64 _ _ ?_)
                        refine gc_seq fun K66 hK66 => ?_
                        refine gc_seq fun K67 hK67 => ?_
                        refine gc_region ?_
                        refine g_v (.free rfl) rfl rfl (qt_move rfl rfl) ?_
                        refine g_v (.free rfl) rfl rfl (qt_move rfl rfl) ?_
                        refine g_v (.free rfl) rfl rfl (qt_neq rfl rfl rfl) ?_
                        refine g_nil ?_
                        refine gk_then (hK67 _ _ ?_)
                        refine gc_cond rfl (fun hc5 => ?_) (fun hc5 => ?_)
                        · try simp only [decide_eq_true_eq, decide_eq_false_iff_not, Bool.not_eq_true', Bool.not_eq_false', Bool.not_eq_eq_eq_not, Bool.not_true, Bool.not_false, ne_eq, Decidable.not_not, Classical.not_not] at hc5
                          first | (exfalso; omega) | exact absurd rfl hc5 | (simp at hc5)
                        · try simp only [decide_eq_true_eq, decide_eq_false_iff_not, Bool.not_eq_true', Bool.not_eq_false', Bool.not_eq_eq_eq_not, Bool.not_true, Bool.not_false, ne_eq, Decidable.not_not, Classical.not_not] at hc5
                          refine gc_skip ?_
                          refine gk_then (hK66 _ _ ?_)
                          refine gc_seq fun K68 hK68 => ?_
                          refine gc_region ?_
                          refine g_v (.free rfl) rfl rfl (qt_assign rfl rfl) ?_
                          refine g_nil ?_
                          refine gk_then (hK68 _ _ ?_)
                          refine gc_ret ?_
                          refine ret_1 rfl rfl  (fun w M => ?_)
                          exact ⟨rfl, M.1⟩
                  simp only [updL, List.foldl_cons, List.foldl_nil, List.set_cons_succ, List.set_cons_zero, List.cons_append, List.nil_append] at HJ59
                  refine ga_start _ (fun w M => M) ?_
                  refine ga_v 0 rfl (by kernel_rfl) (by kernel_rfl) (by kernel_rfl) (.free rfl) rfl rfl (qt_loadS (n := 0) rfl rfl Tryd.underlying40 rfl (by kernel_rfl) rfl) (fun _ _ _ h => h) ?_
                  refine ga_v 2 rfl (by kernel_rfl) (by kernel_rfl) (by kernel_rfl) (.free rfl) rfl rfl (qt_loadS (n := 1) rfl rfl Tryd.underlying40 rfl (by kernel_rfl) rfl) (fun _ _ _ h => h) ?_
                  refine ga_op 1 (by kernel_rfl) rfl (.free rfl) fun K70 hK70 => ?_
                  refine go_callFn1 rfl rfl rfl Tryd.func20 rfl (by decide) rfl (fun w M => toF_any w _ _ (mem_rdF M R0)) ?_
                  intro fx1_69 fk1_69 fx2_69 fk2_69 fx3_69 fk3_69 fx4_69 fk4_69 fx5_69 fk5_69 fx6_69 fk6_69 fx7_69 fk7_69 fx8_69 fk8_69 fx9_69 fk9_69 fx10_69 fk10_69
                  refine hK70 _ _ (fun w M => (mem_take 10 M :)) ?_
                  refine ga_op 3 (by kernel_rfl) rfl (.free rfl) fun K72 hK72 => ?_
                  refine go_callFn1 rfl rfl rfl Tryd.func20 rfl (by decide) rfl (fun w M => toF_any w _ _ (mem_rdF M R1)) ?_
                  intro fx1_71 fk1_71 fx2_71 fk2_71 fx3_71 fk3_71 fx4_71 fk4_71 fx5_71 fk5_71 fx6_71 fk6_71 fx7_71 fk7_71 fx8_71 fk8_71 fx9_71 fk9_71 fx10_71 fk10_71
                  refine hK72 _ _ (fun w M => (mem_take 10 M :)) ?_
                  refine ga_op 4 (by kernel_rfl) rfl (.free rfl) fun K74 hK74 => ?_
                  refine go_callLI1 rfl rfl rfl Tryd.func28 rfl (by decide) rfl (fun w M => himpl w _ _ ((mem_ownF (n := 10) M rfl).rd) ((mem_ownF (n := 11) M rfl).rd) (hT.mem M)) ?_
                  intro ca73 cb73 cc73
                  refine hK74 _ _ (fun w M => (mem_take 10 M :)) ?_
                  refine ga_v 5 rfl (by kernel_rfl) (by kernel_rfl) (by kernel_rfl) (.free rfl) rfl rfl (qt_move rfl rfl) (fun _ _ _ h => h) ?_
                  refine ga_v 6 rfl (by kernel_rfl) (by kernel_rfl) (by kernel_rfl) (.free rfl) rfl rfl (qt_extract rfl rfl rfl) (fun _ _ _ h => h) ?_
                  refine ga_v 7 rfl (by kernel_rfl) (by kernel_rfl) (by kernel_rfl) (.free rfl) rfl rfl (qt_extract rfl rfl rfl) (fun _ _ _ h => h) ?_
                  refine ga_v 8 rfl (by kernel_rfl) (by kernel_rfl) (by kernel_rfl) (.free rfl) rfl rfl (qt_assign rfl rfl) (fun _ _ _ h => h) ?_
                  refine ga_v 9 rfl (by kernel_rfl) (by kernel_rfl) (by kernel_rfl) (.free rfl) rfl rfl (qt_assign rfl rfl) (fun _ _ _ h => h) ?_
                  refine ga_done (by kernel_rfl) ?_
                  try simp only [List.nil_append, List.cons_append, List.append_assoc, List.set_cons_succ, List.set_cons_zero]
                  refine gk_pickL [0, 0, 0, 0, 0, 0, 0, 0, 0, 0, 2] ?_
                  refine gk_sub ?hs_75 (HJ59 (_, _))
                  case hs_75 => exact (sub_cons rfl (sub_cons rfl (sub_cons rfl (sub_cons rfl (sub_cons rfl (sub_cons rfl (sub_cons rfl (sub_cons rfl (sub_cons rfl (sub_cons rfl (sub_cons rfl (sub_cons rfl (sub_cons rfl (sub_cons rfl (sub_cons rfl (sub_cons rfl (sub_cons rfl (sub_cons rfl (sub_cons rfl (sub_cons rfl (sub_cons rfl (sub_cons rfl (sub_cons rfl (sub_cons rfl (sub_cons rfl sub_nil)))))))))))))))))))))))))
      simp only [updL, List.foldl_cons, List.foldl_nil, List.set_cons_succ, List.set_cons_zero, List.cons_append, List.nil_append] at HJ14
      refine ga_start _ (fun w M => M) ?_
      refine ga_v 0 rfl (by kernel_rfl) (by kernel_rfl) (by kernel_rfl) (.free rfl) rfl rfl (qt_loadS (n := 0) rfl rfl Tryd.underlying40 rfl (by kernel_rfl) rfl) (fun _ _ _ h => h) ?_
      refine ga_v 2 rfl (by kernel_rfl) (by kernel_rfl) (by kernel_rfl) (.free rfl) rfl rfl (qt_loadS (n := 1) rfl rfl Tryd.underlying40 rfl (by kernel_rfl) rfl) (fun _ _ _ h => h) ?_
      refine ga_op 1 (by kernel_rfl) rfl (.free rfl) fun K77 hK77 => ?_
      refine go_callFn1 rfl rfl rfl Tryd.func20 rfl (by decide) rfl (fun w M => toF_any w _ _ (mem_rdF M R0)) ?_
      intro fx1_76 fk1_76 fx2_76 fk2_76 fx3_76 fk3_76 fx4_76 fk4_76 fx5_76 fk5_76 fx6_76 fk6_76 fx7_76 fk7_76 fx8_76 fk8_76 fx9_76 fk9_76 fx10_76 fk10_76
      refine hK77 _ _ (fun w M => (mem_take 2 M :)) ?_
      refine ga_op 3 (by kernel_rfl) rfl (.free rfl) fun K79 hK79 => ?_
      refine go_callFn1 rfl rfl rfl Tryd.func20 rfl (by decide) rfl (fun w M => toF_any w _ _ (mem_rdF M R1)) ?_
      intro fx1_78 fk1_78 fx2_78 fk2_78 fx3_78 fk3_78 fx4_78 fk4_78 fx5_78 fk5_78 fx6_78 fk6_78 fx7_78 fk7_78 fx8_78 fk8_78 fx9_78 fk9_78 fx10_78 fk10_78
      refine hK79 _ _ (fun w M => (mem_take 2 M :)) ?_
      refine ga_op 4 (by kernel_rfl) rfl (.free rfl) fun K81 hK81 => ?_
      refine go_callLI1 rfl rfl rfl Tryd.func27 rfl (by decide) rfl (fun w M => hspec w _ _ ((mem_ownF (n := 2) M rfl).rd) ((mem_ownF (n := 3) M rfl).rd)) ?_
      intro ca80 cb80 cc80
      refine hK81 _ _ (fun w M => (mem_take 2 M :)) ?_
      refine ga_v 5 rfl (by kernel_rfl) (by kernel_rfl) (by kernel_rfl) (.free rfl) rfl rfl (qt_move rfl rfl) (fun _ _ _ h => h) ?_
      refine ga_v 6 rfl (by kernel_rfl) (by kernel_rfl) (by kernel_rfl) (.free rfl) rfl rfl (qt_extract rfl rfl rfl) (fun _ _ _ h => h) ?_
      refine ga_v 7 rfl (by kernel_rfl) (by kernel_rfl) (by kernel_rfl) (.free rfl) rfl rfl (qt_extract rfl rfl rfl) (fun _ _ _ h => h) ?_
      refine ga_v 8 rfl (by kernel_rfl) (by kernel_rfl) (by kernel_rfl) (.free rfl) rfl rfl (qt_assign rfl rfl) (fun _ _ _ h => h) ?_
      refine ga_v 9 rfl (by kernel_rfl) (by kernel_rfl) (by kernel_rfl) (.free rfl) rfl rfl (qt_assign rfl rfl) (fun _ _ _ h => h) ?_
      refine ga_done (by kernel_rfl) ?_
      try simp only [List.nil_append, List.cons_append, List.append_assoc, List.set_cons_succ, List.set_cons_zero]
      refine gk_pickL [0, 0, 2] ?_
      refine gk_sub ?hs_82 (HJ14 (_, _))
      case hs_82 => exact (sub_cons rfl (sub_cons rfl (sub_cons rfl (sub_cons rfl (sub_cons rfl (sub_cons rfl (sub_cons rfl (sub_cons rfl (sub_cons rfl (sub_cons rfl sub_nil))))))))))
set_option maxHeartbeats 1000000 in
set_option maxRecDepth 100000 in
theorem big0 (w : World) (v0 : Value) (a0 : Fct) (v1 : Value) (a1 : Fct) (r0 : List Int) (r1 : Int) (h0 : InF w v0 a0) (h1 : InF w v1 a1) (hT : TabW w) (nl : ¬ (szFn a0 ≤ 1048576)) :
    Calls Tryd.prog 6 #[v0, v1] w (RetB w true) := by
  have I0 := h0
  obtain ⟨px1_0, px2_0, px3_0, px4_0, px5_0, px6_0, px7_0, px8_0, px9_0, px10_0, pk1_0, pk2_0, pk3_0, pk4_0, pk5_0, pk6_0, pk7_0, pk8_0, pk9_0, pk10_0, rfl, _⟩ := h0.form
  have I1 := h1
  obtain ⟨px1_1, px2_1, px3_1, px4_1, px5_1, px6_1, px7_1, px8_1, px9_1, px10_1, pk1_1, pk2_1, pk3_1, pk4_1, pk5_1, pk6_1, pk7_1, pk8_1, pk9_1, pk10_1, rfl, _⟩ := h1.form
  go_enter Tryd.func6, Tryd.ntmps6
  refine gc_enter (N := 119) rfl (look_cons (k := 0) rfl (look_cons (k := 1) rfl (look_nil _))) ?_
  refine gc_seq fun K1 hK1 => ?_
  refine gc_region ?_
  refine g_op (.free rfl) fun K3 hK3 => ?_
  refine go_box rfl rfl rfl rfl rfl ?_
  intro B2
  refine hK3 _ _ ?_
  refine g_op (.free rfl) fun K5 hK5 => ?_
  refine go_box rfl rfl rfl rfl rfl ?_
  intro B4
  refine hK5 _ _ ?_
  refine g_v (.free rfl) rfl rfl (qt_assign rfl rfl) ?_
  refine g_nil ?_
  refine gk_then (hK1 _ _ ?_)
  refine gc_seq fun K6 hK6 => ?_
  refine gc_region ?_
  refine g_v (.free rfl) rfl rfl (qt_assign rfl rfl) ?_
  refine g_nil ?_
  refine gk_then (hK6 _ _ ?_)
  refine gc_seq fun K7 hK7 => ?_
  refine gc_region ?_
  refine g_v (.free rfl) rfl rfl (qt_loadS (n := 0) rfl rfl Tryd.underlying40 rfl (by kernel_rfl) rfl) ?_
  refine g_v (.free rfl) rfl rfl (qt_move rfl rfl) ?_
  refine g_q (.free rfl) rfl rfl (qt_call rfl Tryd.func18 rfl (by decide) rfl (fun w M => szF_gt w _ _ _ (inF_below M.1 I0) (by first | assumption | omega) (by first | assumption | omega) (by first | assumption | omega))) ?_
  refine g_v (.free rfl) rfl rfl (qt_assign rfl rfl) ?_
  refine g_nil ?_
  refine gk_then (hK7 _ _ ?_)
  refine gc_seq fun K8 hK8 => ?_
  refine gc_seq fun K9 hK9 => ?_
  refine gc_region ?_
  refine g_v (.free rfl) rfl rfl (qt_move rfl rfl) ?_
  refine g_v (.free rfl) rfl rfl (qt_lss_t rfl rfl rfl (by decide)) ?_
  refine g_nil ?_
  refine gk_then (hK9 _ _ ?_)
  refine gc_cond_t rfl ?_
  refine gc_seq fun K10 hK10 => ?_
  refine gc_region ?_
  refine g_v (.free rfl) rfl rfl (qt_assign rfl rfl) ?_
  refine g_nil ?_
  refine gk_then (hK10 _ _ ?_)
  refine gc_ret ?_
  refine gk_then_ret ?_
  refine ret_1 rfl rfl  (fun w M => ?_)
  exact ⟨rfl, M.1⟩
set_option maxHeartbeats 1000000 in
set_option maxRecDepth 100000 in
theorem big1 (w : World) (v0 : Value) (a0 : Fct) (v1 : Value) (a1 : Fct) (r0 : List Int) (r1 : Int) (h0 : InF w v0 a0) (h1 : InF w v1 a1) (hT : TabW w) (l0 : szFn a0 ≤ 1048576) (nl : ¬ (szFn a0 + szFn a1 ≤ 1048576)) :
    Calls Tryd.prog 6 #[v0, v1] w (RetB w true) := by
  have I0 := h0
  obtain ⟨px1_0, px2_0, px3_0, px4_0, px5_0, px6_0, px7_0, px8_0, px9_0, px10_0, pk1_0, pk2_0, pk3_0, pk4_0, pk5_0, pk6_0, pk7_0, pk8_0, pk9_0, pk10_0, rfl, _⟩ := h0.form
  have I1 := h1
  obtain ⟨px1_1, px2_1, px3_1, px4_1, px5_1, px6_1, px7_1, px8_1, px9_1, px10_1, pk1_1, pk2_1, pk3_1, pk4_1, pk5_1, pk6_1, pk7_1, pk8_1, pk9_1, pk10_1, rfl, _⟩ := h1.form
  go_enter Tryd.func6, Tryd.ntmps6
  refine gc_enter (N := 119) rfl (look_cons (k := 0) rfl (look_cons (k := 1) rfl (look_nil _))) ?_
  refine gc_seq fun K1 hK1 => ?_
  refine gc_region ?_
  refine g_op (.free rfl) fun K3 hK3 => ?_
  refine go_box rfl rfl rfl rfl rfl ?_
  intro B2
  refine hK3 _ _ ?_
  refine g_op (.free rfl) fun K5 hK5 => ?_
  refine go_box rfl rfl rfl rfl rfl ?_
  intro B4
  refine hK5 _ _ ?_
  refine g_v (.free rfl) rfl rfl (qt_assign rfl rfl) ?_
  refine g_nil ?_
  refine gk_then (hK1 _ _ ?_)
  refine gc_seq fun K6 hK6 => ?_
  refine gc_region ?_
  refine g_v (.free rfl) rfl rfl (qt_assign rfl rfl) ?_
  refine g_nil ?_
  refine gk_then (hK6 _ _ ?_)
  refine gc_seq fun K7 hK7 => ?_
  refine gc_region ?_
  refine g_v (.free rfl) rfl rfl (qt_loadS (n := 0) rfl rfl Tryd.underlying40 rfl (by kernel_rfl) rfl) ?_
  refine g_v (.free rfl) rfl rfl (qt_move rfl rfl) ?_
  refine g_q (.free rfl) rfl rfl (qt_call rfl Tryd.func18 rfl (by decide) rfl (fun w M => szF_le w _ _ _ (inF_below M.1 I0) (by first | assumption | omega) (by first | assumption | omega) (by first | assumption | omega))) ?_
  refine g_v (.free rfl) rfl rfl (qt_assign rfl rfl) ?_
  refine g_nil ?_
  refine gk_then (hK7 _ _ ?_)
  refine gc_seq fun K8 hK8 => ?_
  refine gc_seq fun K9 hK9 => ?_
  refine gc_region ?_
  refine g_v (.free rfl) rfl rfl (qt_move rfl rfl) ?_
  refine g_v (.free rfl) rfl rfl (qt_lss rfl rfl rfl) ?_
  refine g_nil ?_
  refine gk_then (hK9 _ _ ?_)
  refine gc_cond rfl (fun hc0 => ?_) (fun hc0 => ?_)
  · try simp only [decide_eq_true_eq, decide_eq_false_iff_not, Bool.not_eq_true', Bool.not_eq_false', Bool.not_eq_eq_eq_not, Bool.not_true, Bool.not_false, ne_eq, Decidable.not_not, Classical.not_not] at hc0
    first | (exfalso; omega) | exact absurd rfl hc0 | (simp at hc0)
  · try simp only [decide_eq_true_eq, decide_eq_false_iff_not, Bool.not_eq_true', Bool.not_eq_false', Bool.not_eq_eq_eq_not, Bool.not_true, Bool.not_false, ne_eq, Decidable.not_not, Classical.not_not] at hc0
    refine gc_skip ?_
    refine gk_then (hK8 _ _ ?_)
    refine gc_seq fun K10 hK10 => ?_
    refine gc_region ?_
    refine g_v (.free rfl) rfl rfl (qt_loadS (n := 1) rfl rfl Tryd.underlying40 rfl (by kernel_rfl) rfl) ?_
    refine g_v (.free rfl) rfl rfl (qt_move rfl rfl) ?_
    refine g_q (.free rfl) rfl rfl (qt_call rfl Tryd.func18 rfl (by decide) rfl (fun w M => szF_gt w _ _ _ (inF_below M.1 I1) (by first | assumption | omega) (by first | assumption | omega) (by first | assumption | omega))) ?_
    refine g_v (.free rfl) rfl rfl (qt_assign rfl rfl) ?_
    refine g_nil ?_
    refine gk_then (hK10 _ _ ?_)
    refine gc_seq fun K11 hK11 => ?_
    refine gc_seq fun K12 hK12 => ?_
    refine gc_region ?_
    refine g_v (.free rfl) rfl rfl (qt_move rfl rfl) ?_
    refine g_v (.free rfl) rfl rfl (qt_lss_t rfl rfl rfl (by decide)) ?_
    refine g_nil ?_
    refine gk_then (hK12 _ _ ?_)
    refine gc_cond_t rfl ?_
    refine gc_seq fun K13 hK13 => ?_
    refine gc_region ?_
    refine g_v (.free rfl) rfl rfl (qt_assign rfl rfl) ?_
    refine g_nil ?_
    refine gk_then (hK13 _ _ ?_)
    refine gc_ret ?_
    refine gk_then_ret ?_
    refine ret_1 rfl rfl  (fun w M => ?_)
    exact ⟨rfl, M.1⟩
theorem walk (w : World) (v0 : Value) (a0 : Fct) (v1 : Value) (a1 : Fct) (r0 : List Int) (r1 : Int) (h0 : InF w v0 a0) (h1 : InF w v1 a1) (hT : TabW w) (hspec : (∀ (w : World) (v0 : Value) (v1 : Value), RdF w v0 a0 → RdF w v1 a1 → Calls Tryd.prog 27 #[v0, v1] w (RetLI w r0 r1))) (himpl : (∀ (w : World) (v0 : Value) (v1 : Value), RdF w v0 a0 → RdF w v1 a1 → TabW w → Calls Tryd.prog 28 #[v0, v1] w (RetLI w r0 r1))) :
    Calls Tryd.prog 6 #[v0, v1] w (RetB w true) := by
  by_cases l0 : szFn a0 ≤ 1048576
  rotate_left
  · exact big0 w v0 a0 v1 a1 r0 r1 h0 h1 hT l0
  by_cases l1 : szFn a0 + szFn a1 ≤ 1048576
  rotate_left
  · exact big1 w v0 a0 v1 a1 r0 r1 h0 h1 hT l0 l1
  exact main w v0 a0 v1 a1 r0 r1 h0 l0 h1 l1 hT hspec himpl
set_option maxHeartbeats 4000000 in
theorem tab_of {W : World} (h : laidMetH Tryd.prog Rows.fnExactFindNaturalIsomorphismRow.laid W) : TabW W := by
  rw [MakeChecks.laidMetH_plain _ _ _ (by kernel_rfl)] at h
  obtain ⟨ps, ⟨g, t, cs, fuel, p, q, hg, ht, hv, hd, _, _⟩, _, _⟩ := h
  obtain rfl := Option.some.inj ((show Tryd.prog.globalNamed "math/bits.deBruijn64tab" = some 0 by kernel_rfl).symm.trans hg)
  obtain rfl := Option.some.inj ((show (Tryd.prog.globals[0]?).map (·.type) = some 151 by kernel_rfl).symm.trans ht)
  obtain ⟨xs, m, _, ex, _, hl, hel⟩ := DataW.trod_array Tryd.underlying151 hd
  have c5 : Tryd.prog.cellsOf 5 = 1 := by kernel_rfl
  have hlen : Lib.deBruijn64tab.length = 64 := by kernel_rfl
  intro r hr
  have hE := hel r hr
  rw [c5, Nat.mul_one, List.getElem?_eq_getElem (by omega)] at hE
  obtain ⟨z, e1, e2, _⟩ := DataW.trod_int Tryd.underlying5 hE
  have e3 : (xs.map (·.1)) = Lib.deBruijn64tab.map fun (n : Nat) => .lit (.int .u8 (n : Int)) := (DataW.agg.inj (Prod.mk.inj ex).1).symm
  have e4 : (xs.map (·.1))[r]? = (Lib.deBruijn64tab.map fun (n : Nat) => (DataW.lit (.int .u8 (n : Int)) : DataW Unit))[r]? := by rw [e3]
  rw [List.getElem?_map, List.getElem?_map, List.getElem?_eq_getElem (by omega : r < xs.length), List.getElem?_eq_getElem (by omega : r < Lib.deBruijn64tab.length), e2] at e4
  have hz : z = ((Lib.deBruijn64tab.getD r 0 : Nat) : Int) := by
    simp only [Option.map_some, Option.some.injEq, DataW.lit.injEq, Lit.int.injEq, true_and] at e4
    rw [e4, List.getD, List.getElem?_eq_getElem (by omega : r < Lib.deBruijn64tab.length)]; rfl
  have hc : W.cell? ⟨0, r, none⟩ = some (.int .u8 ((Lib.deBruijn64tab.getD r 0 : Nat) : Int)) := by
    rw [World.var?_cell hg hv r, ← hz]
    have : cs.toList[r]? = some (.int .u8 z) := by
      have h0 : ((cs.toList.drop r).take 1)[0]? = some (.int .u8 z) := by rw [e1]; rfl
      simpa using h0
    simpa using this
  refine ⟨hc, Nat.lt_of_not_le fun hle => ?_⟩
  have hn : W.heap[0]? = none := Array.getElem?_eq_none hle
  simp [World.cell?, hn] at hc
theorem door_met (os : Os) (args : Array Value) : laidMetH Tryd.prog Rows.fnExactFindNaturalIsomorphismRow.laid ((World.doorLaid Tryd.prog 4000 os).forCall (fun _ _ => 0) ⟨#[], args, []⟩).memory :=
  laidMetH_of_parts3 (fuel := 8) (laidMet_of_run' 8 (by kernel_rfl) (by kernel_rfl)) (by kernel_rfl) (by kernel_rfl)
set_option maxRecDepth 100000 in
theorem lifted (os : Os) (started : os.Started) (H : Type) (enc : TypeId × Value → H) :
    ReturnsInHanded {} Tryd.checked os 6 .any (fun w args => (Rows.fnExactFindNaturalIsomorphismSpec.pre enc Tryd.prog Tryd.f6 [] false w args ∧ laidMetH Tryd.prog Rows.fnExactFindNaturalIsomorphismRow.laid w) ∧ sizedMet enc Tryd.prog Tryd.f6 (OpenSpec.ofChange Rows.fnExactFindNaturalIsomorphismSpec) false w args)
      (Rows.fnExactFindNaturalIsomorphismSpec.post enc Tryd.prog Tryd.f6 false true false false) := by
  refine returnsInHanded_of_change_and (C := Tryd.checked) (X := fun w _ => laidMetH Tryd.prog Rows.fnExactFindNaturalIsomorphismRow.laid w) (fun _ _ _ hh h => h.of_heap hh) own started (by kernel_rfl) Tryd.func6
    (ChangeSpec.witness_shaped (enc := enc) (C := Tryd.checked) (os := os) (X := fun w _ => laidMetH Tryd.prog Rows.fnExactFindNaturalIsomorphismRow.laid w) false (World.doorLaid Tryd.prog 4000 os) #[.agg #[.int .i64 0, .slice none 0 0, .slice none 0 0, .slice none 0 0, .slice none 0 0, .int .i64 0, .slice none 0 0, .slice none 0 0, .slice none 0 0, .slice none 0 0, .slice none 0 0, .slice none 0 0], .agg #[.int .i64 0, .slice none 0 0, .slice none 0 0, .slice none 0 0, .slice none 0 0, .int .i64 0, .slice none 0 0, .slice none 0 0, .slice none 0 0, .slice none 0 0, .slice none 0 0, .slice none 0 0]] 8 rfl (World.shaped_of_RefB (by kernel_rfl) (by kernel_rfl)) (by kernel_rfl) (by kernel_rfl) (by kernel_rfl) (door_met os _)) ?_
  intro W base args ds gs before hval0 hW _ _ hL _
  have hval : ∀ (j : Nat) t v, Tryd.f6.params[j]? = some t → args[j]? = some v → Value.okWide Tryd.prog W .any base t v := hval0
  have hW' := hW
  obtain ⟨p, q, hA0, hV, rfl, _, _⟩ := hW
  have hA : DataW.TrodAll enc Tryd.prog W 0 (fun _ => true) true Tryd.f6.params.toList args.toList ds p := hA0
  rw [Tryd.params6] at hA hval
  obtain ⟨v0, vs0, d0, ds0, p0, q0, hargs, rfl, rfl, t0, s0⟩ := trodAll_cons hA
  obtain ⟨v1, vs1, d1, ds1, p1, q1, rfl, rfl, rfl, t1, s1⟩ := trodAll_cons s0
  obtain ⟨rfl, rfl, rfl⟩ := trodAll_nil s1
  obtain rfl : args = #[v0, v1] := by cases args; simp_all
  obtain ⟨rfl, rfl⟩ := trodVars_none hV
  obtain ⟨a0, h0⟩ := open_inF (hval 0 40 v0 rfl rfl) t0
  obtain ⟨a1, h1⟩ := open_inF (hval 1 40 v1 rfl rfl) t1
  clear hA0 hval0
  refine (walk W v0 a0 v1 a1 (fFindNaturalIsomorphism a0 a1).1 (fFindNaturalIsomorphism a0 a1).2 h0 h1 (tab_of hL) (fun u v0 v1 k0 k1 => spec_FindNaturalIsomorphism u v0 a0 v1 a1 k0 k1) (fun u v0 v1 k0 k1 kT => impl_FindNaturalIsomorphism u v0 a0 v1 a1 k0 k1 kT)).mono fun e W' ⟨he, hg⟩ => ?_
  subst he
  exact ⟨_, rfl, law_post rfl (by kernel_rfl) hW' (by kernel_rfl) rfl rfl rfl hg⟩
theorem over : Rows.fnExactFindNaturalIsomorphismRow.holds Tryd.pinned (OpenSpec.ofChange Rows.fnExactFindNaturalIsomorphismSpec) :=
  OpenClaim.holds_of_wide 6 Tryd.f6 rfl rfl rfl rfl rfl rfl rfl ⟨rfl, rfl, rfl, rfl, rfl⟩ rfl rfl rfl rfl rfl (by kernel_rfl) Tryd.func6 (by kernel_rfl)
    (of_decide_eq_true (by kernel_rfl)) (by unfold Func.isWrapper; first | (rw [if_pos (by decide +kernel)]; kernel_rfl) | (rw [if_neg (by decide +kernel)]; exact ⟨rfl, rfl⟩))
    (fun os started H enc _ => lifted os started H enc)
theorem proved : Rows.FnExactFindNaturalIsomorphismCardSaid :=
  Claim7.holds_tied_plain_at .later [] Rows.fnExactFindNaturalIsomorphismCard.laidKinds true Rows.fnExactFindNaturalIsomorphismCard.stood.harness false
    over (fun _ h => by cases h) (by kernel_rfl) (fun _ h => by cases h) fnExactFindNaturalIsomorphism_row_tie rfl ⟨rfl, rfl⟩ (by kernel_rfl) rfl
    (fun f fn hf hfn => by
      obtain rfl : f = 6 := Option.some.inj ((show Tryd.prog.funcNamed "loop.example/g01083/laws.FnExactFindNaturalIsomorphism" = some 6 by kernel_rfl).symm.trans hf) |>.symm
      obtain rfl : fn = Tryd.f6 := (Option.some.inj (Tryd.func6.symm.trans hfn)).symm
      exact ⟨by kernel_rfl, fun j t ht => by
        have hm : t ∈ Tryd.f6.params.toList := by simpa using Array.mem_of_getElem? ht
        have hall : (Tryd.f6.params.toList.all fun u => !Tryd.prog.wantsStandIn u) = true := by kernel_rfl
        exact (show Tryd.prog.wantsStandIn t = false by simpa using List.all_eq_true.1 hall t hm)⟩)
    (by kernel_rfl)
end Go.Proofs.YtfnneogadciimaaDoor.exactFindNaturalIsomorphism
