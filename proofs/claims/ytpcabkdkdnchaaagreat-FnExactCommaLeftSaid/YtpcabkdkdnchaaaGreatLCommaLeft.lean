import Derived.Test.YtpcabkdkdnchaaaGreatZ1
import Derived.Test.YtpcabkdkdnchaaaGreatZ3
import Derived.Test.YtpcabkdkdnchaaaGreatZ6
import Derived.Test.YtpcabkdkdnchaaaGreatZ27
import Derived.Test.YtpcabkdkdnchaaaGreatZ16

/- The exact law of CommaLeft: its model and its program do the same, in memory of their own. Written by wip/tools/genlaw.py. -/
set_option linter.unusedSimpArgs false
set_option linter.unusedVariables false
set_option linter.unusedSectionVars false
namespace Go.Proofs.YtpcabkdkdnchaaaGreat.exactCommaLeft
open Go.ChangeShapes Go.WideShapes Go.ChangeAt Go.RowKit
set_option maxHeartbeats 4000000 in
set_option maxRecDepth 100000 in
theorem main (w : World) (v0 : Value) (a0 : Fct) (v1 : Value) (a1 : Fct) (r0 : Fct) (r1 : Int) (h0 : InF w v0 a0) (l0 : szFn a0 ≤ 1048576) (h1 : InF w v1 a1) (l1 : szFn a0 + szFn a1 ≤ 1048576) (hr0 : mzF r0 ≤ 3500000000000000) (hspec : (∀ (w : World) (v0 : Value) (v1 : Value), RdF w v0 a0 → RdF w v1 a1 → Calls Tryz.prog 12 #[v0, v1] w (RetFI w r0 r1))) (himpl : (∀ (w : World) (v0 : Value) (v1 : Value), RdF w v0 a0 → RdF w v1 a1 → Calls Tryz.prog 14 #[v0, v1] w (RetFI w r0 r1))) :
    Calls Tryz.prog 3 #[v0, v1] w (RetB w true) := by
  have R0 := h0.rd (by omega)
  have mz0 := mzF_le a0
  have I0 := h0
  obtain ⟨px1_0, px2_0, px3_0, px4_0, px5_0, px6_0, px7_0, px8_0, px9_0, px10_0, pk1_0, pk2_0, pk3_0, pk4_0, pk5_0, pk6_0, pk7_0, pk8_0, pk9_0, pk10_0, rfl, _⟩ := h0.form
  have R1 := h1.rd (by omega)
  have mz1 := mzF_le a1
  have I1 := h1
  obtain ⟨px1_1, px2_1, px3_1, px4_1, px5_1, px6_1, px7_1, px8_1, px9_1, px10_1, pk1_1, pk2_1, pk3_1, pk4_1, pk5_1, pk6_1, pk7_1, pk8_1, pk9_1, pk10_1, rfl, _⟩ := h1.form
  go_enter Tryz.func3, Tryz.ntmps3
  refine gc_enter (N := 119) rfl (look_cons (k := 0) rfl (look_cons (k := 1) rfl (look_nil _))) ?_
  refine gc_seq fun K1 hK1 => ?_
  refine gc_region ?_
  refine g_op (.free rfl) fun K3 hK3 => ?_
  refine go_box rfl rfl rfl rfl rfl ?_
  intro B2
  refine hK3 _ _ ?_
  refine g_op (.free rfl) fun K5 hK5 => ?_
  refine go_box rfl rfl rfl rfl rfl ?_
  intro B4
  refine hK5 _ _ ?_
  refine g_v (.free rfl) rfl rfl (qt_assign rfl rfl) ?_
  refine g_nil ?_
  refine gk_then (hK1 _ _ ?_)
  refine gc_seq fun K6 hK6 => ?_
  refine gc_region ?_
  refine g_v (.free rfl) rfl rfl (qt_assign rfl rfl) ?_
  refine g_nil ?_
  refine gk_then (hK6 _ _ ?_)
  refine gc_seq fun K7 hK7 => ?_
  refine gc_region ?_
  refine g_v (.free rfl) rfl rfl (qt_loadS (n := 0) rfl rfl Tryz.underlying27 rfl (by kernel_rfl) rfl) ?_
  refine g_v (.free rfl) rfl rfl (qt_move rfl rfl) ?_
  refine g_q (.free rfl) rfl rfl (qt_call rfl Tryz.func11 rfl (by decide) rfl (fun w M => szF_le w _ _ _ (inF_below M.1 I0) (by first | assumption | omega) (by first | assumption | omega) (by first | assumption | omega))) ?_
  refine g_v (.free rfl) rfl rfl (qt_assign rfl rfl) ?_
  refine g_nil ?_
  refine gk_then (hK7 _ _ ?_)
  refine gc_seq fun K8 hK8 => ?_
  refine gc_seq fun K9 hK9 => ?_
  refine gc_region ?_
  refine g_v (.free rfl) rfl rfl (qt_move rfl rfl) ?_
  refine g_v (.free rfl) rfl rfl (qt_lss rfl rfl rfl) ?_
  refine g_nil ?_
  refine gk_then (hK9 _ _ ?_)
  refine gc_cond rfl (fun hc0 => ?_) (fun hc0 => ?_)
  · try simp only [decide_eq_true_eq, decide_eq_false_iff_not, Bool.not_eq_true', Bool.not_eq_false', Bool.not_eq_eq_eq_not, Bool.not_true, Bool.not_false, ne_eq, Decidable.not_not, Classical.not_not] at hc0
    first | (exfalso; omega) | exact absurd rfl hc0 | (simp at hc0)
  · try simp only [decide_eq_true_eq, decide_eq_false_iff_not, Bool.not_eq_true', Bool.not_eq_false', Bool.not_eq_eq_eq_not, Bool.not_true, Bool.not_false, ne_eq, Decidable.not_not, Classical.not_not] at hc0
    refine gc_skip ?_
    refine gk_then (hK8 _ _ ?_)
    refine gc_seq fun K10 hK10 => ?_
    refine gc_region ?_
    refine g_v (.free rfl) rfl rfl (qt_loadS (n := 1) rfl rfl Tryz.underlying27 rfl (by kernel_rfl) rfl) ?_
    refine g_v (.free rfl) rfl rfl (qt_move rfl rfl) ?_
    refine g_q (.free rfl) rfl rfl (qt_call rfl Tryz.func11 rfl (by decide) rfl (fun w M => szF_le w _ _ _ (inF_below M.1 I1) (by first | assumption | omega) (by first | assumption | omega) (by first | assumption | omega))) ?_
    refine g_v (.free rfl) rfl rfl (qt_assign rfl rfl) ?_
    refine g_nil ?_
    refine gk_then (hK10 _ _ ?_)
    refine gc_seq fun K11 hK11 => ?_
    refine gc_seq fun K12 hK12 => ?_
    refine gc_region ?_
    refine g_v (.free rfl) rfl rfl (qt_move rfl rfl) ?_
    refine g_v (.free rfl) rfl rfl (qt_lss rfl rfl rfl) ?_
    refine g_nil ?_
    refine gk_then (hK12 _ _ ?_)
    refine gc_cond rfl (fun hc1 => ?_) (fun hc1 => ?_)
    · try simp only [decide_eq_true_eq, decide_eq_false_iff_not, Bool.not_eq_true', Bool.not_eq_false', Bool.not_eq_eq_eq_not, Bool.not_true, Bool.not_false, ne_eq, Decidable.not_not, Classical.not_not] at hc1
      first | (exfalso; omega) | exact absurd rfl hc1 | (simp at hc1)
    · try simp only [decide_eq_true_eq, decide_eq_false_iff_not, Bool.not_eq_true', Bool.not_eq_false', Bool.not_eq_eq_eq_not, Bool.not_true, Bool.not_false, ne_eq, Decidable.not_not, Classical.not_not] at hc1
      refine gc_skip ?_
      refine gk_then (hK11 _ _ ?_)
      refine gc_seq fun K13 hK13 => ?_
      try simp only [List.nil_append, List.cons_append, List.append_assoc, List.set_cons_succ, List.set_cons_zero]
      refine gc_cut ([(0, _), (1, _), (2, _), (3, _), (4, _), (5, _), (21, _), (26, _)] : Env) (fun s : (Option Addr) × Nat × (Option Addr) × Nat × (Option Addr) × Nat × (Option Addr) × Nat × (Option Addr) × Nat × (Option Addr) × Nat × (Option Addr) × Nat × (Option Addr) × Nat × (Option Addr) × Nat × (Option Addr) × Nat × Nat => (fun (jx1 : Option Addr) (jk1 : Nat) (jx2 : Option Addr) (jk2 : Nat) (jx3 : Option Addr) (jk3 : Nat) (jx4 : Option Addr) (jk4 : Nat) (jx5 : Option Addr) (jk5 : Nat) (jx6 : Option Addr) (jk6 : Nat) (jx7 : Option Addr) (jk7 : Nat) (jx8 : Option Addr) (jk8 : Nat) (jx9 : Option Addr) (jk9 : Nat) (jx10 : Option Addr) (jk10 : Nat) (JB : Nat) => ([(6, .pointer (some ⟨JB, 0, none⟩)), (7, .int .i64 r1)] : Env)) s.1 s.2.1 s.2.2.1 s.2.2.2.1 s.2.2.2.2.1 s.2.2.2.2.2.1 s.2.2.2.2.2.2.1 s.2.2.2.2.2.2.2.1 s.2.2.2.2.2.2.2.2.1 s.2.2.2.2.2.2.2.2.2.1 s.2.2.2.2.2.2.2.2.2.2.1 s.2.2.2.2.2.2.2.2.2.2.2.1 s.2.2.2.2.2.2.2.2.2.2.2.2.1 s.2.2.2.2.2.2.2.2.2.2.2.2.2.1 s.2.2.2.2.2.2.2.2.2.2.2.2.2.2.1 s.2.2.2.2.2.2.2.2.2.2.2.2.2.2.2.1 s.2.2.2.2.2.2.2.2.2.2.2.2.2.2.2.2.1 s.2.2.2.2.2.2.2.2.2.2.2.2.2.2.2.2.2.1 s.2.2.2.2.2.2.2.2.2.2.2.2.2.2.2.2.2.2.1 s.2.2.2.2.2.2.2.2.2.2.2.2.2.2.2.2.2.2.2.1 s.2.2.2.2.2.2.2.2.2.2.2.2.2.2.2.2.2.2.2.2) (fun s : (Option Addr) × Nat × (Option Addr) × Nat × (Option Addr) × Nat × (Option Addr) × Nat × (Option Addr) × Nat × (Option Addr) × Nat × (Option Addr) × Nat × (Option Addr) × Nat × (Option Addr) × Nat × (Option Addr) × Nat × Nat => (fun (jx1 : Option Addr) (jk1 : Nat) (jx2 : Option Addr) (jk2 : Nat) (jx3 : Option Addr) (jk3 : Nat) (jx4 : Option Addr) (jk4 : Nat) (jx5 : Option Addr) (jk5 : Nat) (jx6 : Option Addr) (jk6 : Nat) (jx7 : Option Addr) (jk7 : Nat) (jx8 : Option Addr) (jk8 : Nat) (jx9 : Option Addr) (jk9 : Nat) (jx10 : Option Addr) (jk10 : Nat) (JB : Nat) => ([] : List (Nat × Itm))) s.1 s.2.1 s.2.2.1 s.2.2.2.1 s.2.2.2.2.1 s.2.2.2.2.2.1 s.2.2.2.2.2.2.1 s.2.2.2.2.2.2.2.1 s.2.2.2.2.2.2.2.2.1 s.2.2.2.2.2.2.2.2.2.1 s.2.2.2.2.2.2.2.2.2.2.1 s.2.2.2.2.2.2.2.2.2.2.2.1 s.2.2.2.2.2.2.2.2.2.2.2.2.1 s.2.2.2.2.2.2.2.2.2.2.2.2.2.1 s.2.2.2.2.2.2.2.2.2.2.2.2.2.2.1 s.2.2.2.2.2.2.2.2.2.2.2.2.2.2.2.1 s.2.2.2.2.2.2.2.2.2.2.2.2.2.2.2.2.1 s.2.2.2.2.2.2.2.2.2.2.2.2.2.2.2.2.2.1 s.2.2.2.2.2.2.2.2.2.2.2.2.2.2.2.2.2.2.1 s.2.2.2.2.2.2.2.2.2.2.2.2.2.2.2.2.2.2.2.1 s.2.2.2.2.2.2.2.2.2.2.2.2.2.2.2.2.2.2.2.2) (fun s : (Option Addr) × Nat × (Option Addr) × Nat × (Option Addr) × Nat × (Option Addr) × Nat × (Option Addr) × Nat × (Option Addr) × Nat × (Option Addr) × Nat × (Option Addr) × Nat × (Option Addr) × Nat × (Option Addr) × Nat × Nat => (fun (jx1 : Option Addr) (jk1 : Nat) (jx2 : Option Addr) (jk2 : Nat) (jx3 : Option Addr) (jk3 : Nat) (jx4 : Option Addr) (jk4 : Nat) (jx5 : Option Addr) (jk5 : Nat) (jx6 : Option Addr) (jk6 : Nat) (jx7 : Option Addr) (jk7 : Nat) (jx8 : Option Addr) (jk8 : Nat) (jx9 : Option Addr) (jk9 : Nat) (jx10 : Option Addr) (jk10 : Nat) (JB : Nat) => ([ownFI (.agg #[.int .i64 r0.S.ob, .slice jx1 r0.S.s.length jk1, .slice jx2 r0.S.t.length jk2, .slice jx3 r0.S.e.length jk3, .slice jx4 r0.S.m.length jk4, .int .i64 r0.T.ob, .slice jx5 r0.T.s.length jk5, .slice jx6 r0.T.t.length jk6, .slice jx7 r0.T.e.length jk7, .slice jx8 r0.T.m.length jk8, .slice jx9 r0.o.length jk9, .slice jx10 r0.a.length jk10]) r0, bxI JB 31 [.int .i64 r0.S.ob, .slice jx1 r0.S.s.length jk1, .slice jx2 r0.S.t.length jk2, .slice jx3 r0.S.e.length jk3, .slice jx4 r0.S.m.length jk4, .int .i64 r0.T.ob, .slice jx5 r0.T.s.length jk5, .slice jx6 r0.T.t.length jk6, .slice jx7 r0.T.e.length jk7, .slice jx8 r0.T.m.length jk8, .slice jx9 r0.o.length jk9, .slice jx10 r0.a.length jk10]] : List Itm)) s.1 s.2.1 s.2.2.1 s.2.2.2.1 s.2.2.2.2.1 s.2.2.2.2.2.1 s.2.2.2.2.2.2.1 s.2.2.2.2.2.2.2.1 s.2.2.2.2.2.2.2.2.1 s.2.2.2.2.2.2.2.2.2.1 s.2.2.2.2.2.2.2.2.2.2.1 s.2.2.2.2.2.2.2.2.2.2.2.1 s.2.2.2.2.2.2.2.2.2.2.2.2.1 s.2.2.2.2.2.2.2.2.2.2.2.2.2.1 s.2.2.2.2.2.2.2.2.2.2.2.2.2.2.1 s.2.2.2.2.2.2.2.2.2.2.2.2.2.2.2.1 s.2.2.2.2.2.2.2.2.2.2.2.2.2.2.2.2.1 s.2.2.2.2.2.2.2.2.2.2.2.2.2.2.2.2.2.1 s.2.2.2.2.2.2.2.2.2.2.2.2.2.2.2.2.2.2.1 s.2.2.2.2.2.2.2.2.2.2.2.2.2.2.2.2.2.2.2.1 s.2.2.2.2.2.2.2.2.2.2.2.2.2.2.2.2.2.2.2.2) (sub_cons rfl (sub_cons rfl (sub_cons rfl (sub_cons rfl (sub_cons rfl (sub_cons rfl (sub_cons rfl (sub_cons rfl sub_nil)))))))) ?_ (fun HJ14 => ?_)
      · rintro ⟨jx1, jk1, jx2, jk2, jx3, jk3, jx4, jk4, jx5, jk5, jx6, jk6, jx7, jk7, jx8, jk8, jx9, jk9, jx10, jk10, JB⟩
        simp only [updL, List.foldl_cons, List.foldl_nil, List.set_cons_succ, List.set_cons_zero, List.cons_append, List.nil_append]
        refine gk_then (hK13 _ _ ?_)
        refine gc_seq fun K15 hK15 => ?_
        refine gc_region ?_
        refine g_v (.free rfl) rfl rfl (qt_loadS (n := 0) rfl rfl Tryz.underlying27 rfl (by kernel_rfl) rfl) ?_
        refine g_op (.free rfl) fun K17 hK17 => ?_
        refine go_callFn1 rfl rfl rfl Tryz.func13 rfl (by decide) rfl (fun w M => toF_any w _ _ (mem_rdF M R0)) ?_
        intro fx1_16 fk1_16 fx2_16 fk2_16 fx3_16 fk3_16 fx4_16 fk4_16 fx5_16 fk5_16 fx6_16 fk6_16 fx7_16 fk7_16 fx8_16 fk8_16 fx9_16 fk9_16 fx10_16 fk10_16
        refine hK17 _ _ ?_
        refine g_op (.free rfl) fun K19 hK19 => ?_
        refine go_alloc (z := (.agg #[.int .i64 0, .slice none 0 0, .slice none 0 0, .slice none 0 0, .slice none 0 0, .int .i64 0, .slice none 0 0, .slice none 0 0, .slice none 0 0, .slice none 0 0, .slice none 0 0, .slice none 0 0])) (cs := [.int .i64 0, .slice none 0 0, .slice none 0 0, .slice none 0 0, .slice none 0 0, .int .i64 0, .slice none 0 0, .slice none 0 0, .slice none 0 0, .slice none 0 0, .slice none 0 0, .slice none 0 0]) rfl rfl rfl (fun w => by kernel_rfl) rfl ?_
        intro B18
        refine hK19 _ _ ?_
        refine g_op (.free rfl) fun K20 hK20 => ?_
        refine go_storeS (n := 5) rfl rfl rfl rfl (by kernel_rfl) rfl rfl rfl ?_
        refine hK20 _ _ ?_
        refine g_nil ?_
        refine gk_then (hK15 _ _ ?_)
        refine gc_seq fun K21 hK21 => ?_
        refine gc_region ?_
        refine g_v (.free rfl) rfl rfl (qt_loadS (n := 1) rfl rfl Tryz.underlying27 rfl (by kernel_rfl) rfl) ?_
        refine g_op (.free rfl) fun K23 hK23 => ?_
        refine go_callFn1 rfl rfl rfl Tryz.func13 rfl (by decide) rfl (fun w M => toF_any w _ _ (mem_rdF M R1)) ?_
        intro fx1_22 fk1_22 fx2_22 fk2_22 fx3_22 fk3_22 fx4_22 fk4_22 fx5_22 fk5_22 fx6_22 fk6_22 fx7_22 fk7_22 fx8_22 fk8_22 fx9_22 fk9_22 fx10_22 fk10_22
        refine hK23 _ _ ?_
        refine g_op (.free rfl) fun K25 hK25 => ?_
        refine go_alloc (z := (.agg #[.int .i64 0, .slice none 0 0, .slice none 0 0, .slice none 0 0, .slice none 0 0, .int .i64 0, .slice none 0 0, .slice none 0 0, .slice none 0 0, .slice none 0 0, .slice none 0 0, .slice none 0 0])) (cs := [.int .i64 0, .slice none 0 0, .slice none 0 0, .slice none 0 0, .slice none 0 0, .int .i64 0, .slice none 0 0, .slice none 0 0, .slice none 0 0, .slice none 0 0, .slice none 0 0, .slice none 0 0]) rfl rfl rfl (fun w => by kernel_rfl) rfl ?_
        intro B24
        refine hK25 _ _ ?_
        refine g_op (.free rfl) fun K26 hK26 => ?_
        refine go_storeS (n := 7) rfl rfl rfl rfl (by kernel_rfl) rfl rfl rfl ?_
        refine hK26 _ _ ?_
        refine g_nil ?_
        refine gk_then (hK21 _ _ ?_)
        refine gc_seq fun K27 hK27 => ?_
        refine gc_region ?_
        refine g_v (.free rfl) rfl rfl (qt_loadS (n := 5) rfl rfl Tryz.underlying31 rfl (by kernel_rfl) rfl) ?_
        refine g_v (.free rfl) rfl rfl (qt_loadS (n := 7) rfl rfl Tryz.underlying31 rfl (by kernel_rfl) rfl) ?_
        refine g_op (.free rfl) fun K29 hK29 => ?_
        refine go_callFI1 rfl rfl rfl Tryz.func14 rfl (by decide) rfl (fun w M => himpl w _ _ ((mem_ownF (n := 4) M rfl).rd) ((mem_ownF (n := 6) M rfl).rd)) ?_
        intro fx1_28 fk1_28 fx2_28 fk2_28 fx3_28 fk3_28 fx4_28 fk4_28 fx5_28 fk5_28 fx6_28 fk6_28 fx7_28 fk7_28 fx8_28 fk8_28 fx9_28 fk9_28 fx10_28 fk10_28
        refine hK29 _ _ ?_
        refine g_v (.free rfl) rfl rfl (qt_move rfl rfl) ?_
        refine g_v (.free rfl) rfl rfl (qt_extract rfl rfl rfl) ?_
        refine g_v (.free rfl) rfl rfl (qt_extract rfl rfl rfl) ?_
        refine g_op (.free rfl) fun K31 hK31 => ?_
        refine go_alloc (z := (.agg #[.int .i64 0, .slice none 0 0, .slice none 0 0, .slice none 0 0, .slice none 0 0, .int .i64 0, .slice none 0 0, .slice none 0 0, .slice none 0 0, .slice none 0 0, .slice none 0 0, .slice none 0 0])) (cs := [.int .i64 0, .slice none 0 0, .slice none 0 0, .slice none 0 0, .slice none 0 0, .int .i64 0, .slice none 0 0, .slice none 0 0, .slice none 0 0, .slice none 0 0, .slice none 0 0, .slice none 0 0]) rfl rfl rfl (fun w => by kernel_rfl) rfl ?_
        intro B30
        refine hK31 _ _ ?_
        refine g_op (.free rfl) fun K32 hK32 => ?_
        refine go_storeS (n := 9) rfl rfl rfl rfl (by kernel_rfl) rfl rfl rfl ?_
        refine hK32 _ _ ?_
        refine g_v (.free rfl) rfl rfl (qt_assign rfl rfl) ?_
        refine g_nil ?_
        refine gk_then (hK27 _ _ ?_)
        refine gc_seq fun K33 hK33 => ?_
        refine gc_seq fun K34 hK34 => ?_
        refine gc_region ?_
        refine g_v (.free rfl) rfl rfl (qt_loadS (n := 9) rfl rfl Tryz.underlying31 rfl (by kernel_rfl) rfl) ?_
        refine g_v (.free rfl) rfl rfl (qt_loadS (n := 3) rfl rfl Tryz.underlying31 rfl (by kernel_rfl) rfl) ?_
        refine g_q (.free rfl) rfl rfl (qt_call rfl Tryz.func15 rfl (by decide) rfl (fun w M => eqF_refl_any w _ _ _ ((mem_ownF (n := 8) M rfl).rd) ((mem_ownF (n := 2) M rfl).rd))) ?_
        refine g_v (.free rfl) rfl rfl (qt_not rfl rfl) ?_
        refine g_v (.free rfl) rfl rfl (qt_move rfl rfl) ?_
        refine g_v (.held _ _ _ rfl rfl rfl) rfl rfl (qt_move rfl rfl) ?_
        refine g_v (.held _ _ _ rfl rfl rfl) rfl rfl (qt_move rfl rfl) ?_
        refine g_v (.held _ _ _ rfl rfl rfl) rfl rfl (qt_neq_f rfl rfl rfl (fun h => h rfl)) ?_
        refine g_v (.free rfl) rfl rfl (qt_pick_f rfl rfl rfl) ?_
        refine g_nil ?_
        refine gk_then (hK34 _ _ ?_)
        refine gc_cond_f rfl ?_
        refine gc_skip ?_
        refine gk_then (hK33 _ _ ?_)
        refine gc_seq fun K35 hK35 => ?_
        refine gc_seq fun K36 hK36 => ?_
        try simp only [List.nil_append, List.cons_append, List.append_assoc, List.set_cons_succ, List.set_cons_zero]
        refine ga_start _ (fun w M => M) ?_
        refine ga_v 0 rfl (by kernel_rfl) (by kernel_rfl) (by kernel_rfl) (.free rfl) rfl rfl (qt_loadS (n := 5) rfl rfl Tryz.underlying31 rfl (by kernel_rfl) rfl) (fun _ _ _ h => h) ?_
        refine ga_v 1 rfl (by kernel_rfl) (by kernel_rfl) (by kernel_rfl) (.free rfl) rfl rfl (qt_loadS (n := 0) rfl rfl Tryz.underlying27 rfl (by kernel_rfl) rfl) (fun _ _ _ h => h) ?_
        refine ga_op 2 (by kernel_rfl) rfl (.free rfl) fun K38 hK38 => ?_
        refine go_callFn1 rfl rfl rfl Tryz.func13 rfl (by decide) rfl (fun w M => toF_any w _ _ (mem_rdF M R0)) ?_
        intro fx1_37 fk1_37 fx2_37 fk2_37 fx3_37 fk3_37 fx4_37 fk4_37 fx5_37 fk5_37 fx6_37 fk6_37 fx7_37 fk7_37 fx8_37 fk8_37 fx9_37 fk9_37 fx10_37 fk10_37
        refine hK38 _ _ (fun w M => (mem_take 10 M :)) ?_
        refine ga_op 3 (by kernel_rfl) rfl (.free rfl) fun K39 hK39 => ?_
        refine go_q rfl rfl (qt_call rfl Tryz.func15 rfl (by decide) rfl (fun w M => eqF_refl_any w _ _ _ ((mem_ownF (n := 4) M rfl).rd) ((mem_ownF (n := 10) M rfl).rd))) ?_
        refine hK39 _ _ (fun w M => (mem_take 10 M :)) ?_
        refine ga_v 4 rfl (by kernel_rfl) (by kernel_rfl) (by kernel_rfl) (.free rfl) rfl rfl (qt_not rfl rfl) (fun _ _ _ h => h) ?_
        refine ga_done (by kernel_rfl) ?_
        refine gk_then (hK36 _ _ ?_)
        refine gc_cond_f rfl ?_
        refine gc_skip ?_
        refine gk_then (hK35 _ _ ?_)
        refine gc_seq fun K40 hK40 => ?_
        refine gc_seq fun K41 hK41 => ?_
        try simp only [List.nil_append, List.cons_append, List.append_assoc, List.set_cons_succ, List.set_cons_zero]
        refine ga_start _ (fun w M => M) ?_
        refine ga_v 0 rfl (by kernel_rfl) (by kernel_rfl) (by kernel_rfl) (.free rfl) rfl rfl (qt_loadS (n := 7) rfl rfl Tryz.underlying31 rfl (by kernel_rfl) rfl) (fun _ _ _ h => h) ?_
        refine ga_v 1 rfl (by kernel_rfl) (by kernel_rfl) (by kernel_rfl) (.free rfl) rfl rfl (qt_loadS (n := 1) rfl rfl Tryz.underlying27 rfl (by kernel_rfl) rfl) (fun _ _ _ h => h) ?_
        refine ga_op 2 (by kernel_rfl) rfl (.free rfl) fun K43 hK43 => ?_
        refine go_callFn1 rfl rfl rfl Tryz.func13 rfl (by decide) rfl (fun w M => toF_any w _ _ (mem_rdF M R1)) ?_
        intro fx1_42 fk1_42 fx2_42 fk2_42 fx3_42 fk3_42 fx4_42 fk4_42 fx5_42 fk5_42 fx6_42 fk6_42 fx7_42 fk7_42 fx8_42 fk8_42 fx9_42 fk9_42 fx10_42 fk10_42
        refine hK43 _ _ (fun w M => (mem_take 11 M :)) ?_
        refine ga_op 3 (by kernel_rfl) rfl (.free rfl) fun K44 hK44 => ?_
        refine go_q rfl rfl (qt_call rfl Tryz.func15 rfl (by decide) rfl (fun w M => eqF_refl_any w _ _ _ ((mem_ownF (n := 6) M rfl).rd) ((mem_ownF (n := 11) M rfl).rd))) ?_
        refine hK44 _ _ (fun w M => (mem_take 11 M :)) ?_
        refine ga_v 4 rfl (by kernel_rfl) (by kernel_rfl) (by kernel_rfl) (.free rfl) rfl rfl (qt_not rfl rfl) (fun _ _ _ h => h) ?_
        refine ga_done (by kernel_rfl) ?_
        refine gk_then (hK41 _ _ ?_)
        refine gc_cond_f rfl ?_
        refine gc_skip ?_
        refine gk_then (hK40 _ _ ?_)
        refine gc_seq fun K45 hK45 => ?_
        refine gc_region ?_
        refine g_v (.free rfl) rfl rfl (qt_assign rfl rfl) ?_
        refine g_nil ?_
        refine gk_then (hK45 _ _ ?_)
        refine gc_seq fun K46 hK46 => ?_
        refine gc_region ?_
        refine g_v (.free rfl) rfl rfl (qt_loadS (n := 5) rfl rfl Tryz.underlying31 rfl (by kernel_rfl) rfl) ?_
        refine g_v (.free rfl) rfl rfl (qt_move rfl rfl) ?_
        refine g_op (.free rfl) fun K47 hK47 => ?_
        refine go_one (n := 4) rfl rfl rfl Tryz.func16 rfl (by decide) rfl rfl (fun R w M => markF1_any _ w R _ _ _ _ _ _ _ _ _ _ _ _ (by omega) (by omega) M) ?_
        refine hK47 _ _ ?_
        refine g_v (.free rfl) rfl rfl (qt_assign rfl rfl) ?_
        refine g_nil ?_
        refine gk_then (hK46 _ _ ?_)
        refine gc_seq fun K48 hK48 => ?_
        refine gc_region ?_
        refine g_v (.free rfl) rfl rfl (qt_loadS (n := 7) rfl rfl Tryz.underlying31 rfl (by kernel_rfl) rfl) ?_
        refine g_v (.free rfl) rfl rfl (qt_move rfl rfl) ?_
        refine g_op (.free rfl) fun K49 hK49 => ?_
        refine go_one (n := 6) rfl rfl rfl Tryz.func16 rfl (by decide) rfl rfl (fun R w M => markF1_any _ w R _ _ _ _ _ _ _ _ _ _ _ _ (by omega) (by omega) M) ?_
        refine hK49 _ _ ?_
        refine g_v (.free rfl) rfl rfl (qt_assign rfl rfl) ?_
        refine g_nil ?_
        refine gk_then (hK48 _ _ ?_)
        refine gc_seq fun K50 hK50 => ?_
        refine gc_seq fun K51 hK51 => ?_
        refine gc_region ?_
        refine g_v (.free rfl) rfl rfl (qt_move rfl rfl) ?_
        refine g_v (.free rfl) rfl rfl (qt_lss rfl rfl rfl) ?_
        refine g_splitv (.free rfl) rfl rfl (qt_move rfl rfl) (fun hs21_2 => ?_) (fun hs21_2 => ?_)
        · try simp only [decide_eq_true_eq, decide_eq_false_iff_not, Bool.not_eq_true', Bool.not_eq_false', Bool.not_eq_eq_eq_not, Bool.not_true, Bool.not_false, ne_eq, Decidable.not_not, Classical.not_not] at hs21_2
          first | (exfalso; omega) | exact absurd rfl hs21_2 | (simp at hs21_2)
        · try simp only [decide_eq_true_eq, decide_eq_false_iff_not, Bool.not_eq_true', Bool.not_eq_false', Bool.not_eq_eq_eq_not, Bool.not_true, Bool.not_false, ne_eq, Decidable.not_not, Classical.not_not] at hs21_2
          refine g_v (.held _ _ _ rfl rfl rfl) rfl rfl (qt_loadS (n := 9) rfl rfl Tryz.underlying31 rfl (by kernel_rfl) rfl) ?_
          refine g_v (.held _ _ _ rfl rfl rfl) rfl rfl (qt_loadS (n := 3) rfl rfl Tryz.underlying31 rfl (by kernel_rfl) rfl) ?_
          refine g_q (.held _ _ _ rfl rfl rfl) rfl rfl (qt_call rfl Tryz.func15 rfl (by decide) rfl (fun w M => eqF_refl_any w _ _ _ ((mem_ownF (n := 8) M rfl).rd) ((mem_ownF (n := 2) M rfl).rd))) ?_
          refine g_v (.held _ _ _ rfl rfl rfl) rfl rfl (qt_not rfl rfl) ?_
          refine g_v (.free rfl) rfl rfl (qt_pick_f rfl rfl rfl) ?_
          refine g_v (.free rfl) rfl rfl (qt_move rfl rfl) ?_
          refine g_v (.held _ _ _ rfl rfl rfl) rfl rfl (qt_move rfl rfl) ?_
          refine g_v (.held _ _ _ rfl rfl rfl) rfl rfl (qt_move rfl rfl) ?_
          refine g_v (.held _ _ _ rfl rfl rfl) rfl rfl (qt_neq_f rfl rfl rfl (fun h => h rfl)) ?_
          refine g_v (.free rfl) rfl rfl (qt_pick_f rfl rfl rfl) ?_
          refine g_nil ?_
          refine gk_then (hK51 _ _ ?_)
          refine gc_cond_f rfl ?_
          refine gc_skip ?_
          refine gk_then (hK50 _ _ ?_)
          refine gc_seq fun K52 hK52 => ?_
          refine gc_region ?_
          refine g_v (.free rfl) rfl rfl (qt_assign rfl rfl) ?_
          refine g_nil ?_
          refine gk_then (hK52 _ _ ?_)
          refine gc_seq fun K53 hK53 => ?_
          refine gc_region ?_
          refine g_v (.free rfl) rfl rfl (qt_loadS (n := 9) rfl rfl Tryz.underlying31 rfl (by kernel_rfl) rfl) ?_
          refine g_v (.free rfl) rfl rfl (qt_move rfl rfl) ?_
          refine g_op (.free rfl) fun K54 hK54 => ?_
          refine go_one (n := 8) rfl rfl rfl Tryz.func16 rfl (by decide) rfl rfl (fun R w M => markF1_any _ w R _ _ _ _ _ _ _ _ _ _ _ _ (by omega) (by omega) M) ?_
          refine hK54 _ _ ?_
          refine g_v (.free rfl) rfl rfl (qt_assign rfl rfl) ?_
          refine g_nil ?_
          refine gk_then (hK53 _ _ ?_)
          refine gc_seq fun K55 hK55 => ?_
          refine gc_region ?_
          refine g_v (.free rfl) rfl rfl (qt_assign rfl rfl) ?_
          refine g_nil ?_
          refine gk_then (hK55 _ _ ?_)
          refine gc_seq fun K56 hK56 => ?_
          refine gc_region ?_
          refine g_v (.free rfl) rfl rfl (qt_loadS (n := 9) rfl rfl Tryz.underlying31 rfl (by kernel_rfl) rfl) ?_
          refine g_v (.free rfl) rfl rfl (qt_move rfl rfl) ?_
          refine g_q (.free rfl) rfl rfl (qt_call rfl Tryz.func17 rfl (by decide) rfl (fun w M => heldF_any w _ _ _ ((mem_ownF (n := 8) M rfl).rd) (by first | assumption | omega) (by first | assumption | omega))) ?_
          refine g_v (.free rfl) rfl rfl (qt_assign rfl rfl) ?_
          refine g_nil ?_
          refine gk_then (hK56 _ _ ?_)
          refine gc_seq fun K57 hK57 => ?_
          refine gc_seq fun K58 hK58 => ?_
          refine gc_region ?_
          refine g_v (.free rfl) rfl rfl (qt_move rfl rfl) ?_
          refine g_v (.free rfl) rfl rfl (qt_lss rfl rfl rfl) ?_
          refine g_nil ?_
          refine gk_then (hK58 _ _ ?_)
          refine gc_cond rfl (fun hc2 => ?_) (fun hc2 => ?_)
          · try simp only [decide_eq_true_eq, decide_eq_false_iff_not, Bool.not_eq_true', Bool.not_eq_false', Bool.not_eq_eq_eq_not, Bool.not_true, Bool.not_false, ne_eq, Decidable.not_not, Classical.not_not] at hc2
            first | (exfalso; omega) | exact absurd rfl hc2 | (simp at hc2)
          · try simp only [decide_eq_true_eq, decide_eq_false_iff_not, Bool.not_eq_true', Bool.not_eq_false', Bool.not_eq_eq_eq_not, Bool.not_true, Bool.not_false, ne_eq, Decidable.not_not, Classical.not_not] at hc2
            refine gc_skip ?_
            refine gk_then (hK57 _ _ ?_)
            refine gc_seq fun K59 hK59 => ?_
            refine gc_seq fun K60 hK60 => ?_
            refine gc_region ?_
            refine g_v (.free rfl) rfl rfl (qt_move rfl rfl) ?_
            refine g_v (.free rfl) rfl rfl (qt_move rfl rfl) ?_
            refine g_v (.free rfl) rfl rfl (qt_neq rfl rfl rfl) ?_
            refine g_nil ?_
            refine gk_then (hK60 _ _ ?_)
            refine gc_cond rfl (fun hc3 => ?_) (fun hc3 => ?_)
            · try simp only [decide_eq_true_eq, decide_eq_false_iff_not, Bool.not_eq_true', Bool.not_eq_false', Bool.not_eq_eq_eq_not, Bool.not_true, Bool.not_false, ne_eq, Decidable.not_not, Classical.not_not] at hc3
              first | (exfalso; omega) | exact absurd rfl hc3 | (simp at hc3)
            · try simp only [decide_eq_true_eq, decide_eq_false_iff_not, Bool.not_eq_true', Bool.not_eq_false', Bool.not_eq_eq_eq_not, Bool.not_true, Bool.not_false, ne_eq, Decidable.not_not, Classical.not_not] at hc3
              refine gc_skip ?_
              refine gk_then (hK59 _ _ ?_)
              refine gc_seq fun K61 hK61 => ?_
              try simp only [List.nil_append, List.cons_append, List.append_assoc, List.set_cons_succ, List.set_cons_zero]
              refine gc_cut ([(0, _), (1, _), (2, _), (3, _), (4, _), (5, _), (6, _), (7, _), (8, _), (9, _), (10, _), (11, _), (12, _), (13, _), (14, _), (21, _), (26, _), (53, _), (58, _), (63, _), (82, _), (90, _), (93, _)] : Env) (fun s : (Option Addr) × Nat × (Option Addr) × Nat × (Option Addr) × Nat × (Option Addr) × Nat × (Option Addr) × Nat × (Option Addr) × Nat × (Option Addr) × Nat × (Option Addr) × Nat × (Option Addr) × Nat × (Option Addr) × Nat × Nat => (fun (jx1 : Option Addr) (jk1 : Nat) (jx2 : Option Addr) (jk2 : Nat) (jx3 : Option Addr) (jk3 : Nat) (jx4 : Option Addr) (jk4 : Nat) (jx5 : Option Addr) (jk5 : Nat) (jx6 : Option Addr) (jk6 : Nat) (jx7 : Option Addr) (jk7 : Nat) (jx8 : Option Addr) (jk8 : Nat) (jx9 : Option Addr) (jk9 : Nat) (jx10 : Option Addr) (jk10 : Nat) (JB : Nat) => ([(15, .pointer (some ⟨JB, 0, none⟩)), (16, .int .i64 r1)] : Env)) s.1 s.2.1 s.2.2.1 s.2.2.2.1 s.2.2.2.2.1 s.2.2.2.2.2.1 s.2.2.2.2.2.2.1 s.2.2.2.2.2.2.2.1 s.2.2.2.2.2.2.2.2.1 s.2.2.2.2.2.2.2.2.2.1 s.2.2.2.2.2.2.2.2.2.2.1 s.2.2.2.2.2.2.2.2.2.2.2.1 s.2.2.2.2.2.2.2.2.2.2.2.2.1 s.2.2.2.2.2.2.2.2.2.2.2.2.2.1 s.2.2.2.2.2.2.2.2.2.2.2.2.2.2.1 s.2.2.2.2.2.2.2.2.2.2.2.2.2.2.2.1 s.2.2.2.2.2.2.2.2.2.2.2.2.2.2.2.2.1 s.2.2.2.2.2.2.2.2.2.2.2.2.2.2.2.2.2.1 s.2.2.2.2.2.2.2.2.2.2.2.2.2.2.2.2.2.2.1 s.2.2.2.2.2.2.2.2.2.2.2.2.2.2.2.2.2.2.2.1 s.2.2.2.2.2.2.2.2.2.2.2.2.2.2.2.2.2.2.2.2) (fun s : (Option Addr) × Nat × (Option Addr) × Nat × (Option Addr) × Nat × (Option Addr) × Nat × (Option Addr) × Nat × (Option Addr) × Nat × (Option Addr) × Nat × (Option Addr) × Nat × (Option Addr) × Nat × (Option Addr) × Nat × Nat => (fun (jx1 : Option Addr) (jk1 : Nat) (jx2 : Option Addr) (jk2 : Nat) (jx3 : Option Addr) (jk3 : Nat) (jx4 : Option Addr) (jk4 : Nat) (jx5 : Option Addr) (jk5 : Nat) (jx6 : Option Addr) (jk6 : Nat) (jx7 : Option Addr) (jk7 : Nat) (jx8 : Option Addr) (jk8 : Nat) (jx9 : Option Addr) (jk9 : Nat) (jx10 : Option Addr) (jk10 : Nat) (JB : Nat) => ([] : List (Nat × Itm))) s.1 s.2.1 s.2.2.1 s.2.2.2.1 s.2.2.2.2.1 s.2.2.2.2.2.1 s.2.2.2.2.2.2.1 s.2.2.2.2.2.2.2.1 s.2.2.2.2.2.2.2.2.1 s.2.2.2.2.2.2.2.2.2.1 s.2.2.2.2.2.2.2.2.2.2.1 s.2.2.2.2.2.2.2.2.2.2.2.1 s.2.2.2.2.2.2.2.2.2.2.2.2.1 s.2.2.2.2.2.2.2.2.2.2.2.2.2.1 s.2.2.2.2.2.2.2.2.2.2.2.2.2.2.1 s.2.2.2.2.2.2.2.2.2.2.2.2.2.2.2.1 s.2.2.2.2.2.2.2.2.2.2.2.2.2.2.2.2.1 s.2.2.2.2.2.2.2.2.2.2.2.2.2.2.2.2.2.1 s.2.2.2.2.2.2.2.2.2.2.2.2.2.2.2.2.2.2.1 s.2.2.2.2.2.2.2.2.2.2.2.2.2.2.2.2.2.2.2.1 s.2.2.2.2.2.2.2.2.2.2.2.2.2.2.2.2.2.2.2.2) (fun s : (Option Addr) × Nat × (Option Addr) × Nat × (Option Addr) × Nat × (Option Addr) × Nat × (Option Addr) × Nat × (Option Addr) × Nat × (Option Addr) × Nat × (Option Addr) × Nat × (Option Addr) × Nat × (Option Addr) × Nat × Nat => (fun (jx1 : Option Addr) (jk1 : Nat) (jx2 : Option Addr) (jk2 : Nat) (jx3 : Option Addr) (jk3 : Nat) (jx4 : Option Addr) (jk4 : Nat) (jx5 : Option Addr) (jk5 : Nat) (jx6 : Option Addr) (jk6 : Nat) (jx7 : Option Addr) (jk7 : Nat) (jx8 : Option Addr) (jk8 : Nat) (jx9 : Option Addr) (jk9 : Nat) (jx10 : Option Addr) (jk10 : Nat) (JB : Nat) => ([ownFI (.agg #[.int .i64 r0.S.ob, .slice jx1 r0.S.s.length jk1, .slice jx2 r0.S.t.length jk2, .slice jx3 r0.S.e.length jk3, .slice jx4 r0.S.m.length jk4, .int .i64 r0.T.ob, .slice jx5 r0.T.s.length jk5, .slice jx6 r0.T.t.length jk6, .slice jx7 r0.T.e.length jk7, .slice jx8 r0.T.m.length jk8, .slice jx9 r0.o.length jk9, .slice jx10 r0.a.length jk10]) r0, bxI JB 31 [.int .i64 r0.S.ob, .slice jx1 r0.S.s.length jk1, .slice jx2 r0.S.t.length jk2, .slice jx3 r0.S.e.length jk3, .slice jx4 r0.S.m.length jk4, .int .i64 r0.T.ob, .slice jx5 r0.T.s.length jk5, .slice jx6 r0.T.t.length jk6, .slice jx7 r0.T.e.length jk7, .slice jx8 r0.T.m.length jk8, .slice jx9 r0.o.length jk9, .slice jx10 r0.a.length jk10]] : List Itm)) s.1 s.2.1 s.2.2.1 s.2.2.2.1 s.2.2.2.2.1 s.2.2.2.2.2.1 s.2.2.2.2.2.2.1 s.2.2.2.2.2.2.2.1 s.2.2.2.2.2.2.2.2.1 s.2.2.2.2.2.2.2.2.2.1 s.2.2.2.2.2.2.2.2.2.2.1 s.2.2.2.2.2.2.2.2.2.2.2.1 s.2.2.2.2.2.2.2.2.2.2.2.2.1 s.2.2.2.2.2.2.2.2.2.2.2.2.2.1 s.2.2.2.2.2.2.2.2.2.2.2.2.2.2.1 s.2.2.2.2.2.2.2.2.2.2.2.2.2.2.2.1 s.2.2.2.2.2.2.2.2.2.2.2.2.2.2.2.2.1 s.2.2.2.2.2.2.2.2.2.2.2.2.2.2.2.2.2.1 s.2.2.2.2.2.2.2.2.2.2.2.2.2.2.2.2.2.2.1 s.2.2.2.2.2.2.2.2.2.2.2.2.2.2.2.2.2.2.2.1 s.2.2.2.2.2.2.2.2.2.2.2.2.2.2.2.2.2.2.2.2) (sub_cons rfl (sub_cons rfl (sub_cons rfl (sub_cons rfl (sub_cons rfl (sub_cons rfl (sub_cons rfl (sub_cons rfl (sub_cons rfl (sub_cons rfl (sub_cons rfl (sub_cons rfl (sub_cons rfl (sub_cons rfl (sub_cons rfl (sub_cons rfl (sub_cons rfl (sub_cons rfl (sub_cons rfl (sub_cons rfl (sub_cons rfl (sub_cons rfl (sub_cons rfl sub_nil))))))))))))))))))))))) ?_ (fun HJ62 => ?_)
              · rintro ⟨jx1, jk1, jx2, jk2, jx3, jk3, jx4, jk4, jx5, jk5, jx6, jk6, jx7, jk7, jx8, jk8, jx9, jk9, jx10, jk10, JB⟩
                simp only [updL, List.foldl_cons, List.foldl_nil, List.set_cons_succ, List.set_cons_zero, List.cons_append, List.nil_append]
                refine gk_then (hK61 _ _ ?_)
                refine gc_seq fun K63 hK63 => ?_
                refine gc_seq fun K64 hK64 => ?_
                refine gc_region ?_
                refine g_v (.free rfl) rfl rfl (qt_loadS (n := 13) rfl rfl Tryz.underlying31 rfl (by kernel_rfl) rfl) ?_
                refine g_v (.free rfl) rfl rfl (qt_loadS (n := 3) rfl rfl Tryz.underlying31 rfl (by kernel_rfl) rfl) ?_
                refine g_q (.free rfl) rfl rfl (qt_call rfl Tryz.func15 rfl (by decide) rfl (fun w M => eqF_refl_any w _ _ _ ((mem_ownF (n := 12) M rfl).rd) ((mem_ownF (n := 2) M rfl).rd))) ?_
                refine g_v (.free rfl) rfl rfl (qt_not rfl rfl) ?_
                refine g_v (.free rfl) rfl rfl (qt_move rfl rfl) ?_
                refine g_v (.held _ _ _ rfl rfl rfl) rfl rfl (qt_move rfl rfl) ?_
                refine g_v (.held _ _ _ rfl rfl rfl) rfl rfl (qt_move rfl rfl) ?_
                refine g_v (.held _ _ _ rfl rfl rfl) rfl rfl (qt_neq_f rfl rfl rfl (fun h => h rfl)) ?_
                refine g_v (.free rfl) rfl rfl (qt_pick_f rfl rfl rfl) ?_
                refine g_nil ?_
                refine gk_then (hK64 _ _ ?_)
                refine gc_cond_f rfl ?_
                refine gc_skip ?_
                refine gk_then (hK63 _ _ ?_)
                refine gc_seq fun K65 hK65 => ?_
                refine gc_region ?_
                refine g_v (.free rfl) rfl rfl (qt_assign rfl rfl) ?_
                refine g_nil ?_
                refine gk_then (hK65 _ _ ?_)
                refine gc_seq fun K66 hK66 => ?_
                refine gc_region ?_
                refine g_v (.free rfl) rfl rfl (qt_loadS (n := 9) rfl rfl Tryz.underlying31 rfl (by kernel_rfl) rfl) ?_
                refine g_v (.free rfl) rfl rfl (qt_move rfl rfl) ?_
                refine g_q (.free rfl) rfl rfl (qt_call rfl Tryz.func17 rfl (by decide) rfl (fun w M => heldF_any w _ _ _ ((mem_ownF (n := 8) M rfl).rd) (by first | assumption | omega) (by first | assumption | omega))) ?_
                refine g_v (.free rfl) rfl rfl (qt_assign rfl rfl) ?_
                refine g_nil ?_
                refine gk_then (hK66 _ _ ?_)
                refine gc_seq fun K67 hK67 => ?_
                refine gc_seq fun K68 hK68 => ?_
                refine gc_region ?_
                refine g_v (.free rfl) rfl rfl (qt_move rfl rfl) ?_
                refine g_v (.free rfl) rfl rfl (qt_lss rfl rfl rfl) ?_
                refine g_nil ?_
                refine gk_then (hK68 _ _ ?_)
                refine gc_cond rfl (fun hc4 => ?_) (fun hc4 => ?_)
                · try simp only [decide_eq_true_eq, decide_eq_false_iff_not, Bool.not_eq_true', Bool.not_eq_false', Bool.not_eq_eq_eq_not, Bool.not_true, Bool.not_false, ne_eq, Decidable.not_not, Classical.not_not] at hc4
                  first | (exfalso; omega) | exact absurd rfl hc4 | (simp at hc4)
                · try simp only [decide_eq_true_eq, decide_eq_false_iff_not, Bool.not_eq_true', Bool.not_eq_false', Bool.not_eq_eq_eq_not, Bool.not_true, Bool.not_false, ne_eq, Decidable.not_not, Classical.not_not] at hc4
                  refine gc_skip ?_
                  refine gk_then (hK67 _ _ ?_)
                  refine gc_seq fun K69 hK69 => ?_
                  refine gc_seq fun K70 hK70 => ?_
                  refine gc_region ?_
                  refine g_v (.free rfl) rfl rfl (qt_move rfl rfl) ?_
                  refine g_v (.free rfl) rfl rfl (qt_move rfl rfl) ?_
                  refine g_v (.free rfl) rfl rfl (qt_neq rfl rfl rfl) ?_
                  refine g_nil ?_
                  refine gk_then (hK70 _ _ ?_)
                  refine gc_cond rfl (fun hc5 => ?_) (fun hc5 => ?_)
                  · try simp only [decide_eq_true_eq, decide_eq_false_iff_not, Bool.not_eq_true', Bool.not_eq_false', Bool.not_eq_eq_eq_not, Bool.not_true, Bool.not_false, ne_eq, Decidable.not_not, Classical.not_not] at hc5
                    first | (exfalso; omega) | exact absurd rfl hc5 | (simp at hc5)
                  · try simp only [decide_eq_true_eq, decide_eq_false_iff_not, Bool.not_eq_true', Bool.not_eq_false', Bool.not_eq_eq_eq_not, Bool.not_true, Bool.not_false, ne_eq, Decidable.not_not, Classical.not_not] at hc5
                    refine gc_skip ?_
                    refine gk_then (hK69 _ _ ?_)
                    refine gc_seq fun K71 hK71 => ?_
                    refine gc_region ?_
                    refine g_v (.free rfl) rfl rfl (qt_assign rfl rfl) ?_
                    refine g_nil ?_
                    refine gk_then (hK71 _ _ ?_)
                    refine gc_ret ?_
                    refine ret_1 rfl rfl  (fun w M => ?_)
                    exact ⟨rfl, M.1⟩
              simp only [updL, List.foldl_cons, List.foldl_nil, List.set_cons_succ, List.set_cons_zero, List.cons_append, List.nil_append] at HJ62
              refine ga_start _ (fun w M => M) ?_
              refine ga_v 0 rfl (by kernel_rfl) (by kernel_rfl) (by kernel_rfl) (.free rfl) rfl rfl (qt_loadS (n := 0) rfl rfl Tryz.underlying27 rfl (by kernel_rfl) rfl) (fun _ _ _ h => h) ?_
              refine ga_v 2 rfl (by kernel_rfl) (by kernel_rfl) (by kernel_rfl) (.free rfl) rfl rfl (qt_loadS (n := 1) rfl rfl Tryz.underlying27 rfl (by kernel_rfl) rfl) (fun _ _ _ h => h) ?_
              refine ga_two 1 8 (by kernel_rfl) rfl rfl (.free rfl) (.free rfl) (fun K72 hK72 => ?_) (fun K72 hK72 => ?_)
              · refine go_callFn1 rfl rfl rfl Tryz.func13 rfl (by decide) rfl (fun w M => toF_any w _ _ (mem_rdF M R0)) ?_
                intro fx1_73 fk1_73 fx2_73 fk2_73 fx3_73 fk3_73 fx4_73 fk4_73 fx5_73 fk5_73 fx6_73 fk6_73 fx7_73 fk7_73 fx8_73 fk8_73 fx9_73 fk9_73 fx10_73 fk10_73
                refine hK72 _ _ (fun w M => (mem_take 12 M :)) ?_
                refine ga_two 3 8 (by kernel_rfl) rfl rfl (.free rfl) (.free rfl) (fun K75 hK75 => ?_) (fun K75 hK75 => ?_)
                · refine go_callFn1 rfl rfl rfl Tryz.func13 rfl (by decide) rfl (fun w M => toF_any w _ _ (mem_rdF M R1)) ?_
                  intro fx1_76 fk1_76 fx2_76 fk2_76 fx3_76 fk3_76 fx4_76 fk4_76 fx5_76 fk5_76 fx6_76 fk6_76 fx7_76 fk7_76 fx8_76 fk8_76 fx9_76 fk9_76 fx10_76 fk10_76
                  refine hK75 _ _ (fun w M => (mem_take 12 M :)) ?_
                  refine ga_two 4 8 (by kernel_rfl) rfl rfl (.free rfl) (.free rfl) (fun K78 hK78 => ?_) (fun K78 hK78 => ?_)
                  · refine go_callFI1 rfl rfl rfl Tryz.func14 rfl (by decide) rfl (fun w M => himpl w _ _ ((mem_ownF (n := 12) M rfl).rd) ((mem_ownF (n := 13) M rfl).rd)) ?_
                    intro fx1_79 fk1_79 fx2_79 fk2_79 fx3_79 fk3_79 fx4_79 fk4_79 fx5_79 fk5_79 fx6_79 fk6_79 fx7_79 fk7_79 fx8_79 fk8_79 fx9_79 fk9_79 fx10_79 fk10_79
                    refine hK78 _ _ (fun w M => (mem_take 12 M :)) ?_
                    refine ga_v 5 rfl (by kernel_rfl) (by kernel_rfl) (by kernel_rfl) (.free rfl) rfl rfl (qt_move rfl rfl) (fun _ _ _ h => h) ?_
                    refine ga_v 6 rfl (by kernel_rfl) (by kernel_rfl) (by kernel_rfl) (.free rfl) rfl rfl (qt_extract rfl rfl rfl) (fun _ _ _ h => h) ?_
                    refine ga_v 7 rfl (by kernel_rfl) (by kernel_rfl) (by kernel_rfl) (.free rfl) rfl rfl (qt_extract rfl rfl rfl) (fun _ _ _ h => h) ?_
                    refine ga_op 8 (by kernel_rfl) rfl (.free rfl) fun K82 hK82 => ?_
                    refine go_alloc (z := (.agg #[.int .i64 0, .slice none 0 0, .slice none 0 0, .slice none 0 0, .slice none 0 0, .int .i64 0, .slice none 0 0, .slice none 0 0, .slice none 0 0, .slice none 0 0, .slice none 0 0, .slice none 0 0])) (cs := [.int .i64 0, .slice none 0 0, .slice none 0 0, .slice none 0 0, .slice none 0 0, .int .i64 0, .slice none 0 0, .slice none 0 0, .slice none 0 0, .slice none 0 0, .slice none 0 0, .slice none 0 0]) rfl rfl rfl (fun w => by kernel_rfl) rfl ?_
                    intro B81
                    refine hK82 _ _ (fun w M => (mem_take 12 M :)) ?_
                    refine ga_op 9 (by kernel_rfl) rfl (.free rfl) fun K83 hK83 => ?_
                    refine go_storeS (n := 15) rfl rfl rfl rfl (by kernel_rfl) rfl rfl rfl ?_
                    refine hK83 _ _ (fun w M => (mem_take 12 M :)) ?_
                    refine ga_v 10 rfl (by kernel_rfl) (by kernel_rfl) (by kernel_rfl) (.free rfl) rfl rfl (qt_assign rfl rfl) (fun _ _ _ h => h) ?_
                    refine ga_done (by kernel_rfl) ?_
                    try simp only [List.nil_append, List.cons_append, List.append_assoc, List.set_cons_succ, List.set_cons_zero]
                    refine gk_pickL [0, 0, 0, 0, 0, 0, 0, 0, 0, 0, 0, 0, 2, 2] ?_
                    refine gk_sub ?hs_84 (HJ62 (_, _, _, _, _, _, _, _, _, _, _, _, _, _, _, _, _, _, _, _, _))
                    case hs_84 => exact (sub_cons rfl (sub_cons rfl (sub_cons rfl (sub_cons rfl (sub_cons rfl (sub_cons rfl (sub_cons rfl (sub_cons rfl (sub_cons rfl (sub_cons rfl (sub_cons rfl (sub_cons rfl (sub_cons rfl (sub_cons rfl (sub_cons rfl (sub_cons rfl (sub_cons rfl (sub_cons rfl (sub_cons rfl (sub_cons rfl (sub_cons rfl (sub_cons rfl (sub_cons rfl (sub_cons rfl (sub_cons rfl sub_nil)))))))))))))))))))))))))
                  · refine go_alloc (z := (.agg #[.int .i64 0, .slice none 0 0, .slice none 0 0, .slice none 0 0, .slice none 0 0, .int .i64 0, .slice none 0 0, .slice none 0 0, .slice none 0 0, .slice none 0 0, .slice none 0 0, .slice none 0 0])) (cs := [.int .i64 0, .slice none 0 0, .slice none 0 0, .slice none 0 0, .slice none 0 0, .int .i64 0, .slice none 0 0, .slice none 0 0, .slice none 0 0, .slice none 0 0, .slice none 0 0, .slice none 0 0]) rfl rfl rfl (fun w => by kernel_rfl) rfl ?_
                    intro B85
                    refine hK78 _ _ (fun w M => (mem_take 12 M :)) ?_
                    refine ga_op 4 (by kernel_rfl) rfl (.free rfl) fun K88 hK88 => ?_
                    refine go_callFI1 rfl rfl rfl Tryz.func14 rfl (by decide) rfl (fun w M => himpl w _ _ ((mem_ownF (n := 12) M rfl).rd) ((mem_ownF (n := 13) M rfl).rd)) ?_
                    intro fx1_87 fk1_87 fx2_87 fk2_87 fx3_87 fk3_87 fx4_87 fk4_87 fx5_87 fk5_87 fx6_87 fk6_87 fx7_87 fk7_87 fx8_87 fk8_87 fx9_87 fk9_87 fx10_87 fk10_87
                    refine hK88 _ _ (fun w M => (mem_take 12 M :)) ?_
                    refine ga_v 5 rfl (by kernel_rfl) (by kernel_rfl) (by kernel_rfl) (.free rfl) rfl rfl (qt_move rfl rfl) (fun _ _ _ h => h) ?_
                    refine ga_v 6 rfl (by kernel_rfl) (by kernel_rfl) (by kernel_rfl) (.free rfl) rfl rfl (qt_extract rfl rfl rfl) (fun _ _ _ h => h) ?_
                    refine ga_v 7 rfl (by kernel_rfl) (by kernel_rfl) (by kernel_rfl) (.free rfl) rfl rfl (qt_extract rfl rfl rfl) (fun _ _ _ h => h) ?_
                    refine ga_op 9 (by kernel_rfl) rfl (.free rfl) fun K89 hK89 => ?_
                    refine go_storeS (n := 14) rfl rfl rfl rfl (by kernel_rfl) rfl rfl rfl ?_
                    refine hK89 _ _ (fun w M => (mem_take 12 M :)) ?_
                    refine ga_v 10 rfl (by kernel_rfl) (by kernel_rfl) (by kernel_rfl) (.free rfl) rfl rfl (qt_assign rfl rfl) (fun _ _ _ h => h) ?_
                    refine ga_done (by kernel_rfl) ?_
                    try simp only [List.nil_append, List.cons_append, List.append_assoc, List.set_cons_succ, List.set_cons_zero]
                    refine gk_pickL [0, 0, 0, 0, 0, 0, 0, 0, 0, 0, 0, 0, 3, 2] ?_
                    refine gk_sub ?hs_90 (HJ62 (_, _, _, _, _, _, _, _, _, _, _, _, _, _, _, _, _, _, _, _, _))
                    case hs_90 => exact (sub_cons rfl (sub_cons rfl (sub_cons rfl (sub_cons rfl (sub_cons rfl (sub_cons rfl (sub_cons rfl (sub_cons rfl (sub_cons rfl (sub_cons rfl (sub_cons rfl (sub_cons rfl (sub_cons rfl (sub_cons rfl (sub_cons rfl (sub_cons rfl (sub_cons rfl (sub_cons rfl (sub_cons rfl (sub_cons rfl (sub_cons rfl (sub_cons rfl (sub_cons rfl (sub_cons rfl (sub_cons rfl sub_nil)))))))))))))))))))))))))
                · refine go_alloc (z := (.agg #[.int .i64 0, .slice none 0 0, .slice none 0 0, .slice none 0 0, .slice none 0 0, .int .i64 0, .slice none 0 0, .slice none 0 0, .slice none 0 0, .slice none 0 0, .slice none 0 0, .slice none 0 0])) (cs := [.int .i64 0, .slice none 0 0, .slice none 0 0, .slice none 0 0, .slice none 0 0, .int .i64 0, .slice none 0 0, .slice none 0 0, .slice none 0 0, .slice none 0 0, .slice none 0 0, .slice none 0 0]) rfl rfl rfl (fun w => by kernel_rfl) rfl ?_
                  intro B91
                  refine hK75 _ _ (fun w M => (mem_take 12 M :)) ?_
                  refine ga_op 3 (by kernel_rfl) rfl (.free rfl) fun K94 hK94 => ?_
                  refine go_callFn1 rfl rfl rfl Tryz.func13 rfl (by decide) rfl (fun w M => toF_any w _ _ (mem_rdF M R1)) ?_
                  intro fx1_93 fk1_93 fx2_93 fk2_93 fx3_93 fk3_93 fx4_93 fk4_93 fx5_93 fk5_93 fx6_93 fk6_93 fx7_93 fk7_93 fx8_93 fk8_93 fx9_93 fk9_93 fx10_93 fk10_93
                  refine hK94 _ _ (fun w M => (mem_take 12 M :)) ?_
                  refine ga_op 4 (by kernel_rfl) rfl (.free rfl) fun K96 hK96 => ?_
                  refine go_callFI1 rfl rfl rfl Tryz.func14 rfl (by decide) rfl (fun w M => himpl w _ _ ((mem_ownF (n := 12) M rfl).rd) ((mem_ownF (n := 14) M rfl).rd)) ?_
                  intro fx1_95 fk1_95 fx2_95 fk2_95 fx3_95 fk3_95 fx4_95 fk4_95 fx5_95 fk5_95 fx6_95 fk6_95 fx7_95 fk7_95 fx8_95 fk8_95 fx9_95 fk9_95 fx10_95 fk10_95
                  refine hK96 _ _ (fun w M => (mem_take 12 M :)) ?_
                  refine ga_v 5 rfl (by kernel_rfl) (by kernel_rfl) (by kernel_rfl) (.free rfl) rfl rfl (qt_move rfl rfl) (fun _ _ _ h => h) ?_
                  refine ga_v 6 rfl (by kernel_rfl) (by kernel_rfl) (by kernel_rfl) (.free rfl) rfl rfl (qt_extract rfl rfl rfl) (fun _ _ _ h => h) ?_
                  refine ga_v 7 rfl (by kernel_rfl) (by kernel_rfl) (by kernel_rfl) (.free rfl) rfl rfl (qt_extract rfl rfl rfl) (fun _ _ _ h => h) ?_
                  refine ga_op 9 (by kernel_rfl) rfl (.free rfl) fun K97 hK97 => ?_
                  refine go_storeS (n := 13) rfl rfl rfl rfl (by kernel_rfl) rfl rfl rfl ?_
                  refine hK97 _ _ (fun w M => (mem_take 12 M :)) ?_
                  refine ga_v 10 rfl (by kernel_rfl) (by kernel_rfl) (by kernel_rfl) (.free rfl) rfl rfl (qt_assign rfl rfl) (fun _ _ _ h => h) ?_
                  refine ga_done (by kernel_rfl) ?_
                  try simp only [List.nil_append, List.cons_append, List.append_assoc, List.set_cons_succ, List.set_cons_zero]
                  refine gk_pickL [0, 0, 0, 0, 0, 0, 0, 0, 0, 0, 0, 0, 3, 1] ?_
                  refine gk_sub ?hs_98 (HJ62 (_, _, _, _, _, _, _, _, _, _, _, _, _, _, _, _, _, _, _, _, _))
                  case hs_98 => exact (sub_cons rfl (sub_cons rfl (sub_cons rfl (sub_cons rfl (sub_cons rfl (sub_cons rfl (sub_cons rfl (sub_cons rfl (sub_cons rfl (sub_cons rfl (sub_cons rfl (sub_cons rfl (sub_cons rfl (sub_cons rfl (sub_cons rfl (sub_cons rfl (sub_cons rfl (sub_cons rfl (sub_cons rfl (sub_cons rfl (sub_cons rfl (sub_cons rfl (sub_cons rfl (sub_cons rfl (sub_cons rfl sub_nil)))))))))))))))))))))))))
              · refine go_alloc (z := (.agg #[.int .i64 0, .slice none 0 0, .slice none 0 0, .slice none 0 0, .slice none 0 0, .int .i64 0, .slice none 0 0, .slice none 0 0, .slice none 0 0, .slice none 0 0, .slice none 0 0, .slice none 0 0])) (cs := [.int .i64 0, .slice none 0 0, .slice none 0 0, .slice none 0 0, .slice none 0 0, .int .i64 0, .slice none 0 0, .slice none 0 0, .slice none 0 0, .slice none 0 0, .slice none 0 0, .slice none 0 0]) rfl rfl rfl (fun w => by kernel_rfl) rfl ?_
                intro B99
                refine hK72 _ _ (fun w M => (mem_take 12 M :)) ?_
                refine ga_op 1 (by kernel_rfl) rfl (.free rfl) fun K102 hK102 => ?_
                refine go_callFn1 rfl rfl rfl Tryz.func13 rfl (by decide) rfl (fun w M => toF_any w _ _ (mem_rdF M R0)) ?_
                intro fx1_101 fk1_101 fx2_101 fk2_101 fx3_101 fk3_101 fx4_101 fk4_101 fx5_101 fk5_101 fx6_101 fk6_101 fx7_101 fk7_101 fx8_101 fk8_101 fx9_101 fk9_101 fx10_101 fk10_101
                refine hK102 _ _ (fun w M => (mem_take 12 M :)) ?_
                refine ga_op 3 (by kernel_rfl) rfl (.free rfl) fun K104 hK104 => ?_
                refine go_callFn1 rfl rfl rfl Tryz.func13 rfl (by decide) rfl (fun w M => toF_any w _ _ (mem_rdF M R1)) ?_
                intro fx1_103 fk1_103 fx2_103 fk2_103 fx3_103 fk3_103 fx4_103 fk4_103 fx5_103 fk5_103 fx6_103 fk6_103 fx7_103 fk7_103 fx8_103 fk8_103 fx9_103 fk9_103 fx10_103 fk10_103
                refine hK104 _ _ (fun w M => (mem_take 12 M :)) ?_
                refine ga_op 4 (by kernel_rfl) rfl (.free rfl) fun K106 hK106 => ?_
                refine go_callFI1 rfl rfl rfl Tryz.func14 rfl (by decide) rfl (fun w M => himpl w _ _ ((mem_ownF (n := 13) M rfl).rd) ((mem_ownF (n := 14) M rfl).rd)) ?_
                intro fx1_105 fk1_105 fx2_105 fk2_105 fx3_105 fk3_105 fx4_105 fk4_105 fx5_105 fk5_105 fx6_105 fk6_105 fx7_105 fk7_105 fx8_105 fk8_105 fx9_105 fk9_105 fx10_105 fk10_105
                refine hK106 _ _ (fun w M => (mem_take 12 M :)) ?_
                refine ga_v 5 rfl (by kernel_rfl) (by kernel_rfl) (by kernel_rfl) (.free rfl) rfl rfl (qt_move rfl rfl) (fun _ _ _ h => h) ?_
                refine ga_v 6 rfl (by kernel_rfl) (by kernel_rfl) (by kernel_rfl) (.free rfl) rfl rfl (qt_extract rfl rfl rfl) (fun _ _ _ h => h) ?_
                refine ga_v 7 rfl (by kernel_rfl) (by kernel_rfl) (by kernel_rfl) (.free rfl) rfl rfl (qt_extract rfl rfl rfl) (fun _ _ _ h => h) ?_
                refine ga_op 9 (by kernel_rfl) rfl (.free rfl) fun K107 hK107 => ?_
                refine go_storeS (n := 12) rfl rfl rfl rfl (by kernel_rfl) rfl rfl rfl ?_
                refine hK107 _ _ (fun w M => (mem_take 12 M :)) ?_
                refine ga_v 10 rfl (by kernel_rfl) (by kernel_rfl) (by kernel_rfl) (.free rfl) rfl rfl (qt_assign rfl rfl) (fun _ _ _ h => h) ?_
                refine ga_done (by kernel_rfl) ?_
                try simp only [List.nil_append, List.cons_append, List.append_assoc, List.set_cons_succ, List.set_cons_zero]
                refine gk_pickL [0, 0, 0, 0, 0, 0, 0, 0, 0, 0, 0, 0, 3, 0] ?_
                refine gk_sub ?hs_108 (HJ62 (_, _, _, _, _, _, _, _, _, _, _, _, _, _, _, _, _, _, _, _, _))
                case hs_108 => exact (sub_cons rfl (sub_cons rfl (sub_cons rfl (sub_cons rfl (sub_cons rfl (sub_cons rfl (sub_cons rfl (sub_cons rfl (sub_cons rfl (sub_cons rfl (sub_cons rfl (sub_cons rfl (sub_cons rfl (sub_cons rfl (sub_cons rfl (sub_cons rfl (sub_cons rfl (sub_cons rfl (sub_cons rfl (sub_cons rfl (sub_cons rfl (sub_cons rfl (sub_cons rfl (sub_cons rfl (sub_cons rfl sub_nil)))))))))))))))))))))))))
      simp only [updL, List.foldl_cons, List.foldl_nil, List.set_cons_succ, List.set_cons_zero, List.cons_append, List.nil_append] at HJ14
      refine ga_start _ (fun w M => M) ?_
      refine ga_v 0 rfl (by kernel_rfl) (by kernel_rfl) (by kernel_rfl) (.free rfl) rfl rfl (qt_loadS (n := 0) rfl rfl Tryz.underlying27 rfl (by kernel_rfl) rfl) (fun _ _ _ h => h) ?_
      refine ga_v 2 rfl (by kernel_rfl) (by kernel_rfl) (by kernel_rfl) (.free rfl) rfl rfl (qt_loadS (n := 1) rfl rfl Tryz.underlying27 rfl (by kernel_rfl) rfl) (fun _ _ _ h => h) ?_
      refine ga_two 1 8 (by kernel_rfl) rfl rfl (.free rfl) (.free rfl) (fun K109 hK109 => ?_) (fun K109 hK109 => ?_)
      · refine go_callFn1 rfl rfl rfl Tryz.func13 rfl (by decide) rfl (fun w M => toF_any w _ _ (mem_rdF M R0)) ?_
        intro fx1_110 fk1_110 fx2_110 fk2_110 fx3_110 fk3_110 fx4_110 fk4_110 fx5_110 fk5_110 fx6_110 fk6_110 fx7_110 fk7_110 fx8_110 fk8_110 fx9_110 fk9_110 fx10_110 fk10_110
        refine hK109 _ _ (fun w M => (mem_take 2 M :)) ?_
        refine ga_two 3 8 (by kernel_rfl) rfl rfl (.free rfl) (.free rfl) (fun K112 hK112 => ?_) (fun K112 hK112 => ?_)
        · refine go_callFn1 rfl rfl rfl Tryz.func13 rfl (by decide) rfl (fun w M => toF_any w _ _ (mem_rdF M R1)) ?_
          intro fx1_113 fk1_113 fx2_113 fk2_113 fx3_113 fk3_113 fx4_113 fk4_113 fx5_113 fk5_113 fx6_113 fk6_113 fx7_113 fk7_113 fx8_113 fk8_113 fx9_113 fk9_113 fx10_113 fk10_113
          refine hK112 _ _ (fun w M => (mem_take 2 M :)) ?_
          refine ga_two 4 8 (by kernel_rfl) rfl rfl (.free rfl) (.free rfl) (fun K115 hK115 => ?_) (fun K115 hK115 => ?_)
          · refine go_callFI1 rfl rfl rfl Tryz.func12 rfl (by decide) rfl (fun w M => hspec w _ _ ((mem_ownF (n := 2) M rfl).rd) ((mem_ownF (n := 3) M rfl).rd)) ?_
            intro fx1_116 fk1_116 fx2_116 fk2_116 fx3_116 fk3_116 fx4_116 fk4_116 fx5_116 fk5_116 fx6_116 fk6_116 fx7_116 fk7_116 fx8_116 fk8_116 fx9_116 fk9_116 fx10_116 fk10_116
            refine hK115 _ _ (fun w M => (mem_take 2 M :)) ?_
            refine ga_v 5 rfl (by kernel_rfl) (by kernel_rfl) (by kernel_rfl) (.free rfl) rfl rfl (qt_move rfl rfl) (fun _ _ _ h => h) ?_
            refine ga_v 6 rfl (by kernel_rfl) (by kernel_rfl) (by kernel_rfl) (.free rfl) rfl rfl (qt_extract rfl rfl rfl) (fun _ _ _ h => h) ?_
            refine ga_v 7 rfl (by kernel_rfl) (by kernel_rfl) (by kernel_rfl) (.free rfl) rfl rfl (qt_extract rfl rfl rfl) (fun _ _ _ h => h) ?_
            refine ga_op 8 (by kernel_rfl) rfl (.free rfl) fun K119 hK119 => ?_
            refine go_alloc (z := (.agg #[.int .i64 0, .slice none 0 0, .slice none 0 0, .slice none 0 0, .slice none 0 0, .int .i64 0, .slice none 0 0, .slice none 0 0, .slice none 0 0, .slice none 0 0, .slice none 0 0, .slice none 0 0])) (cs := [.int .i64 0, .slice none 0 0, .slice none 0 0, .slice none 0 0, .slice none 0 0, .int .i64 0, .slice none 0 0, .slice none 0 0, .slice none 0 0, .slice none 0 0, .slice none 0 0, .slice none 0 0]) rfl rfl rfl (fun w => by kernel_rfl) rfl ?_
            intro B118
            refine hK119 _ _ (fun w M => (mem_take 2 M :)) ?_
            refine ga_op 9 (by kernel_rfl) rfl (.free rfl) fun K120 hK120 => ?_
            refine go_storeS (n := 5) rfl rfl rfl rfl (by kernel_rfl) rfl rfl rfl ?_
            refine hK120 _ _ (fun w M => (mem_take 2 M :)) ?_
            refine ga_v 10 rfl (by kernel_rfl) (by kernel_rfl) (by kernel_rfl) (.free rfl) rfl rfl (qt_assign rfl rfl) (fun _ _ _ h => h) ?_
            refine ga_done (by kernel_rfl) ?_
            try simp only [List.nil_append, List.cons_append, List.append_assoc, List.set_cons_succ, List.set_cons_zero]
            refine gk_pickL [0, 0, 2, 2] ?_
            refine gk_sub ?hs_121 (HJ14 (_, _, _, _, _, _, _, _, _, _, _, _, _, _, _, _, _, _, _, _, _))
            case hs_121 => exact (sub_cons rfl (sub_cons rfl (sub_cons rfl (sub_cons rfl (sub_cons rfl (sub_cons rfl (sub_cons rfl (sub_cons rfl (sub_cons rfl (sub_cons rfl sub_nil))))))))))
          · refine go_alloc (z := (.agg #[.int .i64 0, .slice none 0 0, .slice none 0 0, .slice none 0 0, .slice none 0 0, .int .i64 0, .slice none 0 0, .slice none 0 0, .slice none 0 0, .slice none 0 0, .slice none 0 0, .slice none 0 0])) (cs := [.int .i64 0, .slice none 0 0, .slice none 0 0, .slice none 0 0, .slice none 0 0, .int .i64 0, .slice none 0 0, .slice none 0 0, .slice none 0 0, .slice none 0 0, .slice none 0 0, .slice none 0 0]) rfl rfl rfl (fun w => by kernel_rfl) rfl ?_
            intro B122
            refine hK115 _ _ (fun w M => (mem_take 2 M :)) ?_
            refine ga_op 4 (by kernel_rfl) rfl (.free rfl) fun K125 hK125 => ?_
            refine go_callFI1 rfl rfl rfl Tryz.func12 rfl (by decide) rfl (fun w M => hspec w _ _ ((mem_ownF (n := 2) M rfl).rd) ((mem_ownF (n := 3) M rfl).rd)) ?_
            intro fx1_124 fk1_124 fx2_124 fk2_124 fx3_124 fk3_124 fx4_124 fk4_124 fx5_124 fk5_124 fx6_124 fk6_124 fx7_124 fk7_124 fx8_124 fk8_124 fx9_124 fk9_124 fx10_124 fk10_124
            refine hK125 _ _ (fun w M => (mem_take 2 M :)) ?_
            refine ga_v 5 rfl (by kernel_rfl) (by kernel_rfl) (by kernel_rfl) (.free rfl) rfl rfl (qt_move rfl rfl) (fun _ _ _ h => h) ?_
            refine ga_v 6 rfl (by kernel_rfl) (by kernel_rfl) (by kernel_rfl) (.free rfl) rfl rfl (qt_extract rfl rfl rfl) (fun _ _ _ h => h) ?_
            refine ga_v 7 rfl (by kernel_rfl) (by kernel_rfl) (by kernel_rfl) (.free rfl) rfl rfl (qt_extract rfl rfl rfl) (fun _ _ _ h => h) ?_
            refine ga_op 9 (by kernel_rfl) rfl (.free rfl) fun K126 hK126 => ?_
            refine go_storeS (n := 4) rfl rfl rfl rfl (by kernel_rfl) rfl rfl rfl ?_
            refine hK126 _ _ (fun w M => (mem_take 2 M :)) ?_
            refine ga_v 10 rfl (by kernel_rfl) (by kernel_rfl) (by kernel_rfl) (.free rfl) rfl rfl (qt_assign rfl rfl) (fun _ _ _ h => h) ?_
            refine ga_done (by kernel_rfl) ?_
            try simp only [List.nil_append, List.cons_append, List.append_assoc, List.set_cons_succ, List.set_cons_zero]
            refine gk_pickL [0, 0, 3, 2] ?_
            refine gk_sub ?hs_127 (HJ14 (_, _, _, _, _, _, _, _, _, _, _, _, _, _, _, _, _, _, _, _, _))
            case hs_127 => exact (sub_cons rfl (sub_cons rfl (sub_cons rfl (sub_cons rfl (sub_cons rfl (sub_cons rfl (sub_cons rfl (sub_cons rfl (sub_cons rfl (sub_cons rfl sub_nil))))))))))
        · refine go_alloc (z := (.agg #[.int .i64 0, .slice none 0 0, .slice none 0 0, .slice none 0 0, .slice none 0 0, .int .i64 0, .slice none 0 0, .slice none 0 0, .slice none 0 0, .slice none 0 0, .slice none 0 0, .slice none 0 0])) (cs := [.int .i64 0, .slice none 0 0, .slice none 0 0, .slice none 0 0, .slice none 0 0, .int .i64 0, .slice none 0 0, .slice none 0 0, .slice none 0 0, .slice none 0 0, .slice none 0 0, .slice none 0 0]) rfl rfl rfl (fun w => by kernel_rfl) rfl ?_
          intro B128
          refine hK112 _ _ (fun w M => (mem_take 2 M :)) ?_
          refine ga_op 3 (by kernel_rfl) rfl (.free rfl) fun K131 hK131 => ?_
          refine go_callFn1 rfl rfl rfl Tryz.func13 rfl (by decide) rfl (fun w M => toF_any w _ _ (mem_rdF M R1)) ?_
          intro fx1_130 fk1_130 fx2_130 fk2_130 fx3_130 fk3_130 fx4_130 fk4_130 fx5_130 fk5_130 fx6_130 fk6_130 fx7_130 fk7_130 fx8_130 fk8_130 fx9_130 fk9_130 fx10_130 fk10_130
          refine hK131 _ _ (fun w M => (mem_take 2 M :)) ?_
          refine ga_op 4 (by kernel_rfl) rfl (.free rfl) fun K133 hK133 => ?_
          refine go_callFI1 rfl rfl rfl Tryz.func12 rfl (by decide) rfl (fun w M => hspec w _ _ ((mem_ownF (n := 2) M rfl).rd) ((mem_ownF (n := 4) M rfl).rd)) ?_
          intro fx1_132 fk1_132 fx2_132 fk2_132 fx3_132 fk3_132 fx4_132 fk4_132 fx5_132 fk5_132 fx6_132 fk6_132 fx7_132 fk7_132 fx8_132 fk8_132 fx9_132 fk9_132 fx10_132 fk10_132
          refine hK133 _ _ (fun w M => (mem_take 2 M :)) ?_
          refine ga_v 5 rfl (by kernel_rfl) (by kernel_rfl) (by kernel_rfl) (.free rfl) rfl rfl (qt_move rfl rfl) (fun _ _ _ h => h) ?_
          refine ga_v 6 rfl (by kernel_rfl) (by kernel_rfl) (by kernel_rfl) (.free rfl) rfl rfl (qt_extract rfl rfl rfl) (fun _ _ _ h => h) ?_
          refine ga_v 7 rfl (by kernel_rfl) (by kernel_rfl) (by kernel_rfl) (.free rfl) rfl rfl (qt_extract rfl rfl rfl) (fun _ _ _ h => h) ?_
          refine ga_op 9 (by kernel_rfl) rfl (.free rfl) fun K134 hK134 => ?_
          refine go_storeS (n := 3) rfl rfl rfl rfl (by kernel_rfl) rfl rfl rfl ?_
          refine hK134 _ _ (fun w M => (mem_take 2 M :)) ?_
          refine ga_v 10 rfl (by kernel_rfl) (by kernel_rfl) (by kernel_rfl) (.free rfl) rfl rfl (qt_assign rfl rfl) (fun _ _ _ h => h) ?_
          refine ga_done (by kernel_rfl) ?_
          try simp only [List.nil_append, List.cons_append, List.append_assoc, List.set_cons_succ, List.set_cons_zero]
          refine gk_pickL [0, 0, 3, 1] ?_
          refine gk_sub ?hs_135 (HJ14 (_, _, _, _, _, _, _, _, _, _, _, _, _, _, _, _, _, _, _, _, _))
          case hs_135 => exact (sub_cons rfl (sub_cons rfl (sub_cons rfl (sub_cons rfl (sub_cons rfl (sub_cons rfl (sub_cons rfl (sub_cons rfl (sub_cons rfl (sub_cons rfl sub_nil))))))))))
      · refine go_alloc (z := (.agg #[.int .i64 0, .slice none 0 0, .slice none 0 0, .slice none 0 0, .slice none 0 0, .int .i64 0, .slice none 0 0, .slice none 0 0, .slice none 0 0, .slice none 0 0, .slice none 0 0, .slice none 0 0])) (cs := [.int .i64 0, .slice none 0 0, .slice none 0 0, .slice none 0 0, .slice none 0 0, .int .i64 0, .slice none 0 0, .slice none 0 0, .slice none 0 0, .slice none 0 0, .slice none 0 0, .slice none 0 0]) rfl rfl rfl (fun w => by kernel_rfl) rfl ?_
        intro B136
        refine hK109 _ _ (fun w M => (mem_take 2 M :)) ?_
        refine ga_op 1 (by kernel_rfl) rfl (.free rfl) fun K139 hK139 => ?_
        refine go_callFn1 rfl rfl rfl Tryz.func13 rfl (by decide) rfl (fun w M => toF_any w _ _ (mem_rdF M R0)) ?_
        intro fx1_138 fk1_138 fx2_138 fk2_138 fx3_138 fk3_138 fx4_138 fk4_138 fx5_138 fk5_138 fx6_138 fk6_138 fx7_138 fk7_138 fx8_138 fk8_138 fx9_138 fk9_138 fx10_138 fk10_138
        refine hK139 _ _ (fun w M => (mem_take 2 M :)) ?_
        refine ga_op 3 (by kernel_rfl) rfl (.free rfl) fun K141 hK141 => ?_
        refine go_callFn1 rfl rfl rfl Tryz.func13 rfl (by decide) rfl (fun w M => toF_any w _ _ (mem_rdF M R1)) ?_
        intro fx1_140 fk1_140 fx2_140 fk2_140 fx3_140 fk3_140 fx4_140 fk4_140 fx5_140 fk5_140 fx6_140 fk6_140 fx7_140 fk7_140 fx8_140 fk8_140 fx9_140 fk9_140 fx10_140 fk10_140
        refine hK141 _ _ (fun w M => (mem_take 2 M :)) ?_
        refine ga_op 4 (by kernel_rfl) rfl (.free rfl) fun K143 hK143 => ?_
        refine go_callFI1 rfl rfl rfl Tryz.func12 rfl (by decide) rfl (fun w M => hspec w _ _ ((mem_ownF (n := 3) M rfl).rd) ((mem_ownF (n := 4) M rfl).rd)) ?_
        intro fx1_142 fk1_142 fx2_142 fk2_142 fx3_142 fk3_142 fx4_142 fk4_142 fx5_142 fk5_142 fx6_142 fk6_142 fx7_142 fk7_142 fx8_142 fk8_142 fx9_142 fk9_142 fx10_142 fk10_142
        refine hK143 _ _ (fun w M => (mem_take 2 M :)) ?_
        refine ga_v 5 rfl (by kernel_rfl) (by kernel_rfl) (by kernel_rfl) (.free rfl) rfl rfl (qt_move rfl rfl) (fun _ _ _ h => h) ?_
        refine ga_v 6 rfl (by kernel_rfl) (by kernel_rfl) (by kernel_rfl) (.free rfl) rfl rfl (qt_extract rfl rfl rfl) (fun _ _ _ h => h) ?_
        refine ga_v 7 rfl (by kernel_rfl) (by kernel_rfl) (by kernel_rfl) (.free rfl) rfl rfl (qt_extract rfl rfl rfl) (fun _ _ _ h => h) ?_
        refine ga_op 9 (by kernel_rfl) rfl (.free rfl) fun K144 hK144 => ?_
        refine go_storeS (n := 2) rfl rfl rfl rfl (by kernel_rfl) rfl rfl rfl ?_
        refine hK144 _ _ (fun w M => (mem_take 2 M :)) ?_
        refine ga_v 10 rfl (by kernel_rfl) (by kernel_rfl) (by kernel_rfl) (.free rfl) rfl rfl (qt_assign rfl rfl) (fun _ _ _ h => h) ?_
        refine ga_done (by kernel_rfl) ?_
        try simp only [List.nil_append, List.cons_append, List.append_assoc, List.set_cons_succ, List.set_cons_zero]
        refine gk_pickL [0, 0, 3, 0] ?_
        refine gk_sub ?hs_145 (HJ14 (_, _, _, _, _, _, _, _, _, _, _, _, _, _, _, _, _, _, _, _, _))
        case hs_145 => exact (sub_cons rfl (sub_cons rfl (sub_cons rfl (sub_cons rfl (sub_cons rfl (sub_cons rfl (sub_cons rfl (sub_cons rfl (sub_cons rfl (sub_cons rfl sub_nil))))))))))

set_option maxHeartbeats 1000000 in
set_option maxRecDepth 100000 in
theorem big0 (w : World) (v0 : Value) (a0 : Fct) (v1 : Value) (a1 : Fct) (r0 : Fct) (r1 : Int) (h0 : InF w v0 a0) (h1 : InF w v1 a1) (nl : ¬ (szFn a0 ≤ 1048576)) :
    Calls Tryz.prog 3 #[v0, v1] w (RetB w true) := by
  have I0 := h0
  obtain ⟨px1_0, px2_0, px3_0, px4_0, px5_0, px6_0, px7_0, px8_0, px9_0, px10_0, pk1_0, pk2_0, pk3_0, pk4_0, pk5_0, pk6_0, pk7_0, pk8_0, pk9_0, pk10_0, rfl, _⟩ := h0.form
  have I1 := h1
  obtain ⟨px1_1, px2_1, px3_1, px4_1, px5_1, px6_1, px7_1, px8_1, px9_1, px10_1, pk1_1, pk2_1, pk3_1, pk4_1, pk5_1, pk6_1, pk7_1, pk8_1, pk9_1, pk10_1, rfl, _⟩ := h1.form
  go_enter Tryz.func3, Tryz.ntmps3
  refine gc_enter (N := 119) rfl (look_cons (k := 0) rfl (look_cons (k := 1) rfl (look_nil _))) ?_
  refine gc_seq fun K1 hK1 => ?_
  refine gc_region ?_
  refine g_op (.free rfl) fun K3 hK3 => ?_
  refine go_box rfl rfl rfl rfl rfl ?_
  intro B2
  refine hK3 _ _ ?_
  refine g_op (.free rfl) fun K5 hK5 => ?_
  refine go_box rfl rfl rfl rfl rfl ?_
  intro B4
  refine hK5 _ _ ?_
  refine g_v (.free rfl) rfl rfl (qt_assign rfl rfl) ?_
  refine g_nil ?_
  refine gk_then (hK1 _ _ ?_)
  refine gc_seq fun K6 hK6 => ?_
  refine gc_region ?_
  refine g_v (.free rfl) rfl rfl (qt_assign rfl rfl) ?_
  refine g_nil ?_
  refine gk_then (hK6 _ _ ?_)
  refine gc_seq fun K7 hK7 => ?_
  refine gc_region ?_
  refine g_v (.free rfl) rfl rfl (qt_loadS (n := 0) rfl rfl Tryz.underlying27 rfl (by kernel_rfl) rfl) ?_
  refine g_v (.free rfl) rfl rfl (qt_move rfl rfl) ?_
  refine g_q (.free rfl) rfl rfl (qt_call rfl Tryz.func11 rfl (by decide) rfl (fun w M => szF_gt w _ _ _ (inF_below M.1 I0) (by first | assumption | omega) (by first | assumption | omega) (by first | assumption | omega))) ?_
  refine g_v (.free rfl) rfl rfl (qt_assign rfl rfl) ?_
  refine g_nil ?_
  refine gk_then (hK7 _ _ ?_)
  refine gc_seq fun K8 hK8 => ?_
  refine gc_seq fun K9 hK9 => ?_
  refine gc_region ?_
  refine g_v (.free rfl) rfl rfl (qt_move rfl rfl) ?_
  refine g_v (.free rfl) rfl rfl (qt_lss_t rfl rfl rfl (by decide)) ?_
  refine g_nil ?_
  refine gk_then (hK9 _ _ ?_)
  refine gc_cond_t rfl ?_
  refine gc_seq fun K10 hK10 => ?_
  refine gc_region ?_
  refine g_v (.free rfl) rfl rfl (qt_assign rfl rfl) ?_
  refine g_nil ?_
  refine gk_then (hK10 _ _ ?_)
  refine gc_ret ?_
  refine gk_then_ret ?_
  refine ret_1 rfl rfl  (fun w M => ?_)
  exact ⟨rfl, M.1⟩

set_option maxHeartbeats 1000000 in
set_option maxRecDepth 100000 in
theorem big1 (w : World) (v0 : Value) (a0 : Fct) (v1 : Value) (a1 : Fct) (r0 : Fct) (r1 : Int) (h0 : InF w v0 a0) (h1 : InF w v1 a1) (l0 : szFn a0 ≤ 1048576) (nl : ¬ (szFn a0 + szFn a1 ≤ 1048576)) :
    Calls Tryz.prog 3 #[v0, v1] w (RetB w true) := by
  have I0 := h0
  obtain ⟨px1_0, px2_0, px3_0, px4_0, px5_0, px6_0, px7_0, px8_0, px9_0, px10_0, pk1_0, pk2_0, pk3_0, pk4_0, pk5_0, pk6_0, pk7_0, pk8_0, pk9_0, pk10_0, rfl, _⟩ := h0.form
  have I1 := h1
  obtain ⟨px1_1, px2_1, px3_1, px4_1, px5_1, px6_1, px7_1, px8_1, px9_1, px10_1, pk1_1, pk2_1, pk3_1, pk4_1, pk5_1, pk6_1, pk7_1, pk8_1, pk9_1, pk10_1, rfl, _⟩ := h1.form
  go_enter Tryz.func3, Tryz.ntmps3
  refine gc_enter (N := 119) rfl (look_cons (k := 0) rfl (look_cons (k := 1) rfl (look_nil _))) ?_
  refine gc_seq fun K1 hK1 => ?_
  refine gc_region ?_
  refine g_op (.free rfl) fun K3 hK3 => ?_
  refine go_box rfl rfl rfl rfl rfl ?_
  intro B2
  refine hK3 _ _ ?_
  refine g_op (.free rfl) fun K5 hK5 => ?_
  refine go_box rfl rfl rfl rfl rfl ?_
  intro B4
  refine hK5 _ _ ?_
  refine g_v (.free rfl) rfl rfl (qt_assign rfl rfl) ?_
  refine g_nil ?_
  refine gk_then (hK1 _ _ ?_)
  refine gc_seq fun K6 hK6 => ?_
  refine gc_region ?_
  refine g_v (.free rfl) rfl rfl (qt_assign rfl rfl) ?_
  refine g_nil ?_
  refine gk_then (hK6 _ _ ?_)
  refine gc_seq fun K7 hK7 => ?_
  refine gc_region ?_
  refine g_v (.free rfl) rfl rfl (qt_loadS (n := 0) rfl rfl Tryz.underlying27 rfl (by kernel_rfl) rfl) ?_
  refine g_v (.free rfl) rfl rfl (qt_move rfl rfl) ?_
  refine g_q (.free rfl) rfl rfl (qt_call rfl Tryz.func11 rfl (by decide) rfl (fun w M => szF_le w _ _ _ (inF_below M.1 I0) (by first | assumption | omega) (by first | assumption | omega) (by first | assumption | omega))) ?_
  refine g_v (.free rfl) rfl rfl (qt_assign rfl rfl) ?_
  refine g_nil ?_
  refine gk_then (hK7 _ _ ?_)
  refine gc_seq fun K8 hK8 => ?_
  refine gc_seq fun K9 hK9 => ?_
  refine gc_region ?_
  refine g_v (.free rfl) rfl rfl (qt_move rfl rfl) ?_
  refine g_v (.free rfl) rfl rfl (qt_lss rfl rfl rfl) ?_
  refine g_nil ?_
  refine gk_then (hK9 _ _ ?_)
  refine gc_cond rfl (fun hc0 => ?_) (fun hc0 => ?_)
  · try simp only [decide_eq_true_eq, decide_eq_false_iff_not, Bool.not_eq_true', Bool.not_eq_false', Bool.not_eq_eq_eq_not, Bool.not_true, Bool.not_false, ne_eq, Decidable.not_not, Classical.not_not] at hc0
    first | (exfalso; omega) | exact absurd rfl hc0 | (simp at hc0)
  · try simp only [decide_eq_true_eq, decide_eq_false_iff_not, Bool.not_eq_true', Bool.not_eq_false', Bool.not_eq_eq_eq_not, Bool.not_true, Bool.not_false, ne_eq, Decidable.not_not, Classical.not_not] at hc0
    refine gc_skip ?_
    refine gk_then (hK8 _ _ ?_)
    refine gc_seq fun K10 hK10 => ?_
    refine gc_region ?_
    refine g_v (.free rfl) rfl rfl (qt_loadS (n := 1) rfl rfl Tryz.underlying27 rfl (by kernel_rfl) rfl) ?_
    refine g_v (.free rfl) rfl rfl (qt_move rfl rfl) ?_
    refine g_q (.free rfl) rfl rfl (qt_call rfl Tryz.func11 rfl (by decide) rfl (fun w M => szF_gt w _ _ _ (inF_below M.1 I1) (by first | assumption | omega) (by first | assumption | omega) (by first | assumption | omega))) ?_
    refine g_v (.free rfl) rfl rfl (qt_assign rfl rfl) ?_
    refine g_nil ?_
    refine gk_then (hK10 _ _ ?_)
    refine gc_seq fun K11 hK11 => ?_
    refine gc_seq fun K12 hK12 => ?_
    refine gc_region ?_
    refine g_v (.free rfl) rfl rfl (qt_move rfl rfl) ?_
    refine g_v (.free rfl) rfl rfl (qt_lss_t rfl rfl rfl (by decide)) ?_
    refine g_nil ?_
    refine gk_then (hK12 _ _ ?_)
    refine gc_cond_t rfl ?_
    refine gc_seq fun K13 hK13 => ?_
    refine gc_region ?_
    refine g_v (.free rfl) rfl rfl (qt_assign rfl rfl) ?_
    refine g_nil ?_
    refine gk_then (hK13 _ _ ?_)
    refine gc_ret ?_
    refine gk_then_ret ?_
    refine ret_1 rfl rfl  (fun w M => ?_)
    exact ⟨rfl, M.1⟩

theorem walk (w : World) (v0 : Value) (a0 : Fct) (v1 : Value) (a1 : Fct) (r0 : Fct) (r1 : Int) (h0 : InF w v0 a0) (h1 : InF w v1 a1) (hr0 : mzF r0 ≤ 3500000000000000) (hspec : (∀ (w : World) (v0 : Value) (v1 : Value), RdF w v0 a0 → RdF w v1 a1 → Calls Tryz.prog 12 #[v0, v1] w (RetFI w r0 r1))) (himpl : (∀ (w : World) (v0 : Value) (v1 : Value), RdF w v0 a0 → RdF w v1 a1 → Calls Tryz.prog 14 #[v0, v1] w (RetFI w r0 r1))) :
    Calls Tryz.prog 3 #[v0, v1] w (RetB w true) := by
  by_cases l0 : szFn a0 ≤ 1048576
  rotate_left
  · exact big0 w v0 a0 v1 a1 r0 r1 h0 h1 l0
  by_cases l1 : szFn a0 + szFn a1 ≤ 1048576
  rotate_left
  · exact big1 w v0 a0 v1 a1 r0 r1 h0 h1 l0 l1
  exact main w v0 a0 v1 a1 r0 r1 h0 l0 h1 l1 hr0 hspec himpl

set_option maxHeartbeats 4000000 in
set_option maxRecDepth 100000 in
theorem lifted (os : Os) (started : os.Started) (H : Type) (enc : TypeId × Value → H) :
    ReturnsInHanded {} Tryz.checked os 3 .any (Rows.fnExactCommaLeftSpec.pre6 enc Tryz.prog Tryz.f3 Rows.fnExactCommaLeftRow.domain false) (Rows.fnExactCommaLeftSpec.post enc Tryz.prog Tryz.f3 false true false false) := by
  refine returnsInHanded_of_change (C := Tryz.checked) own started (by kernel_rfl) Tryz.func3
    (ChangeSpec.witness6 (enc := enc) (C := Tryz.checked) false ⟨#[], #[.agg #[.int .i64 0, .slice none 0 0, .slice none 0 0, .slice none 0 0, .slice none 0 0, .int .i64 0, .slice none 0 0, .slice none 0 0, .slice none 0 0, .slice none 0 0, .slice none 0 0, .slice none 0 0], .agg #[.int .i64 0, .slice none 0 0, .slice none 0 0, .slice none 0 0, .slice none 0 0, .int .i64 0, .slice none 0 0, .slice none 0 0, .slice none 0 0, .slice none 0 0, .slice none 0 0, .slice none 0 0]], []⟩ 8 (by kernel_rfl) (by kernel_rfl) (by kernel_rfl) (by kernel_rfl)) ?_
  intro W base args ds gs before hval0 hW _ _
  have hval : ∀ (j : Nat) t v, Tryz.f3.params[j]? = some t → args[j]? = some v → Value.okWide Tryz.prog W .any base t v := hval0
  have hW' := hW
  obtain ⟨p, q, hA0, hV, rfl, _, _⟩ := hW
  have hA : DataW.TrodAll enc Tryz.prog W 0 (fun _ => true) true Tryz.f3.params.toList args.toList ds p := hA0
  rw [Tryz.params3] at hA hval
  obtain ⟨v0, vs0, d0, ds0, p0, q0, hargs, rfl, rfl, t0, s0⟩ := trodAll_cons hA
  obtain ⟨v1, vs1, d1, ds1, p1, q1, rfl, rfl, rfl, t1, s1⟩ := trodAll_cons s0
  obtain ⟨rfl, rfl, rfl⟩ := trodAll_nil s1
  obtain rfl : args = #[v0, v1] := by cases args; simp_all
  obtain ⟨rfl, rfl⟩ := trodVars_none hV
  obtain ⟨a0, h0⟩ := open_inF (hval 0 27 v0 rfl rfl) t0
  obtain ⟨a1, h1⟩ := open_inF (hval 1 27 v1 rfl rfl) t1
  clear hA0 hval0
  refine (walk W v0 a0 v1 a1 (fCommaLeft a0 a1).1 (fCommaLeft a0 a1).2 h0 h1 (bound_CommaLeft a0 a1) (fun u v0 v1 k0 k1 => spec_CommaLeft u v0 a0 v1 a1 k0 k1) (fun u v0 v1 k0 k1 => impl_CommaLeft u v0 a0 v1 a1 k0 k1)).mono fun e W' ⟨he, hg⟩ => ?_
  subst he
  exact ⟨_, rfl, law_post rfl (by kernel_rfl) hW' (by kernel_rfl) rfl rfl rfl hg⟩

theorem over : Rows.fnExactCommaLeftRow.holds Tryz.pinned (OpenSpec.ofChange Rows.fnExactCommaLeftSpec) :=
  OpenClaim.holds_of_wide 3 Tryz.f3 rfl rfl rfl rfl rfl rfl rfl ⟨rfl, rfl, rfl, rfl, rfl⟩ rfl rfl rfl rfl rfl (by kernel_rfl) Tryz.func3 (by kernel_rfl)
    (of_decide_eq_true (by kernel_rfl)) (by unfold Func.isWrapper; first | (rw [if_pos (by decide +kernel)]; kernel_rfl) | (rw [if_neg (by decide +kernel)]; exact ⟨rfl, rfl⟩))
    (fun os started H enc _ => lifted os started H enc)

theorem proved : Rows.FnExactCommaLeftSaid := over
end Go.Proofs.YtpcabkdkdnchaaaGreat.exactCommaLeft
