
/- The exact law of FixSecond: its model and its program do the same, in memory of their own. Written by wip/tools/genlaw.py. -/
import Derived.Test.YtfnneogadciimabBase
import Derived.Test.YtfnneogadciimabLawC
import Derived.Test.YtfnneogadciimabRul4
import Derived.Test.YtfnneogadciimabFunL
import Derived.Test.YtfnneogadciimabTwW
set_option linter.unusedSimpArgs false
set_option linter.unusedVariables false
set_option linter.unusedSectionVars false
namespace Go.Proofs.Ytfnneogadciimab.exactFixSecond
open Go.ChangeShapes Go.WideShapes Go.ChangeAt Go.RowKit
set_option maxHeartbeats 4000000 in
set_option maxRecDepth 100000 in
theorem main (w : World) (v0 : Value) (a0 : Cat) (v1 : Value) (a1 : Cat) (v2 : Value) (a2 : Fct) (a3 : Int) (r0 : Fct) (r1 : Int) (h0 : InC w v0 a0) (l0 : szM a0 ≤ 1048576) (h1 : InC w v1 a1) (l1 : szM a0 + szM a1 ≤ 1048576) (h2 : InF w v2 a2) (l2 : szM a0 + szM a1 + szFn a2 ≤ 1048576) (hr0 : mzF r0 ≤ 3500000000000000) (hspec : (∀ (w : World) (v0 : Value) (v1 : Value) (v2 : Value), RdC w v0 a0 → RdC w v1 a1 → RdF w v2 a2 → Calls Try.prog 24 #[v0, v1, v2, (.int .i64 a3)] w (RetFI w r0 r1))) (himpl : (∀ (w : World) (v0 : Value) (v1 : Value) (v2 : Value), RdC w v0 a0 → RdC w v1 a1 → RdF w v2 a2 → Calls Try.prog 25 #[v0, v1, v2, (.int .i64 a3)] w (RetFI w r0 r1))) :
    Calls Try.prog 4 #[v0, v1, v2, .int .i64 a3] w (RetB w true) := by
  have R0 := h0.rd (by omega)
  have I0 := h0
  obtain ⟨pa0, pb0, pc0, pd0, pe0, pf0, pg0, ph0, rfl⟩ := h0.form
  have mz0 := mz_le a0
  have R1 := h1.rd (by omega)
  have I1 := h1
  obtain ⟨pa1, pb1, pc1, pd1, pe1, pf1, pg1, ph1, rfl⟩ := h1.form
  have mz1 := mz_le a1
  have R2 := h2.rd (by omega)
  have mz2 := mzF_le a2
  have I2 := h2
  obtain ⟨px1_2, px2_2, px3_2, px4_2, px5_2, px6_2, px7_2, px8_2, px9_2, px10_2, pk1_2, pk2_2, pk3_2, pk4_2, pk5_2, pk6_2, pk7_2, pk8_2, pk9_2, pk10_2, rfl, _⟩ := h2.form
  go_enter Try.func4, Try.ntmps4
  refine gc_enter (N := 147) rfl (look_cons (k := 0) rfl (look_cons (k := 1) rfl (look_cons (k := 2) rfl (look_cons (k := 3) rfl (look_nil _))))) ?_
  refine gc_seq fun K1 hK1 => ?_
  refine gc_region ?_
  refine g_op (.free rfl) fun K3 hK3 => ?_
  refine go_box rfl rfl rfl rfl rfl ?_
  intro B2
  refine hK3 _ _ ?_
  refine g_op (.free rfl) fun K5 hK5 => ?_
  refine go_box rfl rfl rfl rfl rfl ?_
  intro B4
  refine hK5 _ _ ?_
  refine g_op (.free rfl) fun K7 hK7 => ?_
  refine go_box rfl rfl rfl rfl rfl ?_
  intro B6
  refine hK7 _ _ ?_
  refine g_v (.free rfl) rfl rfl (qt_assign rfl rfl) ?_
  refine g_nil ?_
  refine gk_then (hK1 _ _ ?_)
  refine gc_seq fun K8 hK8 => ?_
  refine gc_region ?_
  refine g_v (.free rfl) rfl rfl (qt_assign rfl rfl) ?_
  refine g_nil ?_
  refine gk_then (hK8 _ _ ?_)
  refine gc_seq fun K9 hK9 => ?_
  refine gc_region ?_
  refine g_v (.free rfl) rfl rfl (qt_loadS (n := 0) rfl rfl Try.underlying25 rfl (by kernel_rfl) rfl) ?_
  refine g_v (.free rfl) rfl rfl (qt_move rfl rfl) ?_
  refine g_q (.free rfl) rfl rfl (qt_call rfl Try.func13 rfl (by decide) rfl (fun w M => szC_le w _ _ _ (inC_below M.1 I0) (by first | assumption | omega) (by first | assumption | omega) (by first | assumption | omega))) ?_
  refine g_v (.free rfl) rfl rfl (qt_assign rfl rfl) ?_
  refine g_nil ?_
  refine gk_then (hK9 _ _ ?_)
  refine gc_seq fun K10 hK10 => ?_
  refine gc_seq fun K11 hK11 => ?_
  refine gc_region ?_
  refine g_v (.free rfl) rfl rfl (qt_move rfl rfl) ?_
  refine g_v (.free rfl) rfl rfl (qt_lss rfl rfl rfl) ?_
  refine g_nil ?_
  refine gk_then (hK11 _ _ ?_)
  refine gc_cond rfl (fun hc0 => ?_) (fun hc0 => ?_)
  · try simp only [decide_eq_true_eq, decide_eq_false_iff_not, Bool.not_eq_true', Bool.not_eq_false', Bool.not_eq_eq_eq_not, Bool.not_true, Bool.not_false, ne_eq, Decidable.not_not, Classical.not_not] at hc0
    first | (exfalso; omega) | exact absurd rfl hc0 | (simp at hc0)
  · try simp only [decide_eq_true_eq, decide_eq_false_iff_not, Bool.not_eq_true', Bool.not_eq_false', Bool.not_eq_eq_eq_not, Bool.not_true, Bool.not_false, ne_eq, Decidable.not_not, Classical.not_not] at hc0
    refine gc_skip ?_
    refine gk_then (hK10 _ _ ?_)
    refine gc_seq fun K12 hK12 => ?_
    refine gc_region ?_
    refine g_v (.free rfl) rfl rfl (qt_loadS (n := 1) rfl rfl Try.underlying25 rfl (by kernel_rfl) rfl) ?_
    refine g_v (.free rfl) rfl rfl (qt_move rfl rfl) ?_
    refine g_q (.free rfl) rfl rfl (qt_call rfl Try.func13 rfl (by decide) rfl (fun w M => szC_le w _ _ _ (inC_below M.1 I1) (by first | assumption | omega) (by first | assumption | omega) (by first | assumption | omega))) ?_
    refine g_v (.free rfl) rfl rfl (qt_assign rfl rfl) ?_
    refine g_nil ?_
    refine gk_then (hK12 _ _ ?_)
    refine gc_seq fun K13 hK13 => ?_
    refine gc_seq fun K14 hK14 => ?_
    refine gc_region ?_
    refine g_v (.free rfl) rfl rfl (qt_move rfl rfl) ?_
    refine g_v (.free rfl) rfl rfl (qt_lss rfl rfl rfl) ?_
    refine g_nil ?_
    refine gk_then (hK14 _ _ ?_)
    refine gc_cond rfl (fun hc1 => ?_) (fun hc1 => ?_)
    · try simp only [decide_eq_true_eq, decide_eq_false_iff_not, Bool.not_eq_true', Bool.not_eq_false', Bool.not_eq_eq_eq_not, Bool.not_true, Bool.not_false, ne_eq, Decidable.not_not, Classical.not_not] at hc1
      first | (exfalso; omega) | exact absurd rfl hc1 | (simp at hc1)
    · try simp only [decide_eq_true_eq, decide_eq_false_iff_not, Bool.not_eq_true', Bool.not_eq_false', Bool.not_eq_eq_eq_not, Bool.not_true, Bool.not_false, ne_eq, Decidable.not_not, Classical.not_not] at hc1
      refine gc_skip ?_
      refine gk_then (hK13 _ _ ?_)
      refine gc_seq fun K15 hK15 => ?_
      refine gc_region ?_
      refine g_v (.free rfl) rfl rfl (qt_loadS (n := 2) rfl rfl Try.underlying27 rfl (by kernel_rfl) rfl) ?_
      refine g_v (.free rfl) rfl rfl (qt_move rfl rfl) ?_
      refine g_q (.free rfl) rfl rfl (qt_call rfl Try.func14 rfl (by decide) rfl (fun w M => szF_le w _ _ _ (inF_below M.1 I2) (by first | assumption | omega) (by first | assumption | omega) (by first | assumption | omega))) ?_
      refine g_v (.free rfl) rfl rfl (qt_assign rfl rfl) ?_
      refine g_nil ?_
      refine gk_then (hK15 _ _ ?_)
      refine gc_seq fun K16 hK16 => ?_
      refine gc_seq fun K17 hK17 => ?_
      refine gc_region ?_
      refine g_v (.free rfl) rfl rfl (qt_move rfl rfl) ?_
      refine g_v (.free rfl) rfl rfl (qt_lss rfl rfl rfl) ?_
      refine g_nil ?_
      refine gk_then (hK17 _ _ ?_)
      refine gc_cond rfl (fun hc2 => ?_) (fun hc2 => ?_)
      · try simp only [decide_eq_true_eq, decide_eq_false_iff_not, Bool.not_eq_true', Bool.not_eq_false', Bool.not_eq_eq_eq_not, Bool.not_true, Bool.not_false, ne_eq, Decidable.not_not, Classical.not_not] at hc2
        first | (exfalso; omega) | exact absurd rfl hc2 | (simp at hc2)
      · try simp only [decide_eq_true_eq, decide_eq_false_iff_not, Bool.not_eq_true', Bool.not_eq_false', Bool.not_eq_eq_eq_not, Bool.not_true, Bool.not_false, ne_eq, Decidable.not_not, Classical.not_not] at hc2
        refine gc_skip ?_
        refine gk_then (hK16 _ _ ?_)
        refine gc_seq fun K18 hK18 => ?_
        try simp only [List.nil_append, List.cons_append, List.append_assoc, List.set_cons_succ, List.set_cons_zero]
        refine gc_cut ([(0, _), (1, _), (2, _), (3, _), (4, _), (5, _), (6, _), (8, _), (9, _), (26, _), (31, _), (36, _)] : Env) (fun s : (Option Addr) × Nat × (Option Addr) × Nat × (Option Addr) × Nat × (Option Addr) × Nat × (Option Addr) × Nat × (Option Addr) × Nat × (Option Addr) × Nat × (Option Addr) × Nat × (Option Addr) × Nat × (Option Addr) × Nat × Nat => (fun (jx1 : Option Addr) (jk1 : Nat) (jx2 : Option Addr) (jk2 : Nat) (jx3 : Option Addr) (jk3 : Nat) (jx4 : Option Addr) (jk4 : Nat) (jx5 : Option Addr) (jk5 : Nat) (jx6 : Option Addr) (jk6 : Nat) (jx7 : Option Addr) (jk7 : Nat) (jx8 : Option Addr) (jk8 : Nat) (jx9 : Option Addr) (jk9 : Nat) (jx10 : Option Addr) (jk10 : Nat) (JB : Nat) => ([(10, .pointer (some ⟨JB, 0, none⟩)), (11, .int .i64 r1)] : Env)) s.1 s.2.1 s.2.2.1 s.2.2.2.1 s.2.2.2.2.1 s.2.2.2.2.2.1 s.2.2.2.2.2.2.1 s.2.2.2.2.2.2.2.1 s.2.2.2.2.2.2.2.2.1 s.2.2.2.2.2.2.2.2.2.1 s.2.2.2.2.2.2.2.2.2.2.1 s.2.2.2.2.2.2.2.2.2.2.2.1 s.2.2.2.2.2.2.2.2.2.2.2.2.1 s.2.2.2.2.2.2.2.2.2.2.2.2.2.1 s.2.2.2.2.2.2.2.2.2.2.2.2.2.2.1 s.2.2.2.2.2.2.2.2.2.2.2.2.2.2.2.1 s.2.2.2.2.2.2.2.2.2.2.2.2.2.2.2.2.1 s.2.2.2.2.2.2.2.2.2.2.2.2.2.2.2.2.2.1 s.2.2.2.2.2.2.2.2.2.2.2.2.2.2.2.2.2.2.1 s.2.2.2.2.2.2.2.2.2.2.2.2.2.2.2.2.2.2.2.1 s.2.2.2.2.2.2.2.2.2.2.2.2.2.2.2.2.2.2.2.2) (fun s : (Option Addr) × Nat × (Option Addr) × Nat × (Option Addr) × Nat × (Option Addr) × Nat × (Option Addr) × Nat × (Option Addr) × Nat × (Option Addr) × Nat × (Option Addr) × Nat × (Option Addr) × Nat × (Option Addr) × Nat × Nat => (fun (jx1 : Option Addr) (jk1 : Nat) (jx2 : Option Addr) (jk2 : Nat) (jx3 : Option Addr) (jk3 : Nat) (jx4 : Option Addr) (jk4 : Nat) (jx5 : Option Addr) (jk5 : Nat) (jx6 : Option Addr) (jk6 : Nat) (jx7 : Option Addr) (jk7 : Nat) (jx8 : Option Addr) (jk8 : Nat) (jx9 : Option Addr) (jk9 : Nat) (jx10 : Option Addr) (jk10 : Nat) (JB : Nat) => ([] : List (Nat × Itm))) s.1 s.2.1 s.2.2.1 s.2.2.2.1 s.2.2.2.2.1 s.2.2.2.2.2.1 s.2.2.2.2.2.2.1 s.2.2.2.2.2.2.2.1 s.2.2.2.2.2.2.2.2.1 s.2.2.2.2.2.2.2.2.2.1 s.2.2.2.2.2.2.2.2.2.2.1 s.2.2.2.2.2.2.2.2.2.2.2.1 s.2.2.2.2.2.2.2.2.2.2.2.2.1 s.2.2.2.2.2.2.2.2.2.2.2.2.2.1 s.2.2.2.2.2.2.2.2.2.2.2.2.2.2.1 s.2.2.2.2.2.2.2.2.2.2.2.2.2.2.2.1 s.2.2.2.2.2.2.2.2.2.2.2.2.2.2.2.2.1 s.2.2.2.2.2.2.2.2.2.2.2.2.2.2.2.2.2.1 s.2.2.2.2.2.2.2.2.2.2.2.2.2.2.2.2.2.2.1 s.2.2.2.2.2.2.2.2.2.2.2.2.2.2.2.2.2.2.2.1 s.2.2.2.2.2.2.2.2.2.2.2.2.2.2.2.2.2.2.2.2) (fun s : (Option Addr) × Nat × (Option Addr) × Nat × (Option Addr) × Nat × (Option Addr) × Nat × (Option Addr) × Nat × (Option Addr) × Nat × (Option Addr) × Nat × (Option Addr) × Nat × (Option Addr) × Nat × (Option Addr) × Nat × Nat => (fun (jx1 : Option Addr) (jk1 : Nat) (jx2 : Option Addr) (jk2 : Nat) (jx3 : Option Addr) (jk3 : Nat) (jx4 : Option Addr) (jk4 : Nat) (jx5 : Option Addr) (jk5 : Nat) (jx6 : Option Addr) (jk6 : Nat) (jx7 : Option Addr) (jk7 : Nat) (jx8 : Option Addr) (jk8 : Nat) (jx9 : Option Addr) (jk9 : Nat) (jx10 : Option Addr) (jk10 : Nat) (JB : Nat) => ([ownFI (.agg #[.int .i64 r0.S.ob, .slice jx1 r0.S.s.length jk1, .slice jx2 r0.S.t.length jk2, .slice jx3 r0.S.e.length jk3, .slice jx4 r0.S.m.length jk4, .int .i64 r0.T.ob, .slice jx5 r0.T.s.length jk5, .slice jx6 r0.T.t.length jk6, .slice jx7 r0.T.e.length jk7, .slice jx8 r0.T.m.length jk8, .slice jx9 r0.o.length jk9, .slice jx10 r0.a.length jk10]) r0, bxI JB 32 [.int .i64 r0.S.ob, .slice jx1 r0.S.s.length jk1, .slice jx2 r0.S.t.length jk2, .slice jx3 r0.S.e.length jk3, .slice jx4 r0.S.m.length jk4, .int .i64 r0.T.ob, .slice jx5 r0.T.s.length jk5, .slice jx6 r0.T.t.length jk6, .slice jx7 r0.T.e.length jk7, .slice jx8 r0.T.m.length jk8, .slice jx9 r0.o.length jk9, .slice jx10 r0.a.length jk10]] : List Itm)) s.1 s.2.1 s.2.2.1 s.2.2.2.1 s.2.2.2.2.1 s.2.2.2.2.2.1 s.2.2.2.2.2.2.1 s.2.2.2.2.2.2.2.1 s.2.2.2.2.2.2.2.2.1 s.2.2.2.2.2.2.2.2.2.1 s.2.2.2.2.2.2.2.2.2.2.1 s.2.2.2.2.2.2.2.2.2.2.2.1 s.2.2.2.2.2.2.2.2.2.2.2.2.1 s.2.2.2.2.2.2.2.2.2.2.2.2.2.1 s.2.2.2.2.2.2.2.2.2.2.2.2.2.2.1 s.2.2.2.2.2.2.2.2.2.2.2.2.2.2.2.1 s.2.2.2.2.2.2.2.2.2.2.2.2.2.2.2.2.1 s.2.2.2.2.2.2.2.2.2.2.2.2.2.2.2.2.2.1 s.2.2.2.2.2.2.2.2.2.2.2.2.2.2.2.2.2.2.1 s.2.2.2.2.2.2.2.2.2.2.2.2.2.2.2.2.2.2.2.1 s.2.2.2.2.2.2.2.2.2.2.2.2.2.2.2.2.2.2.2.2) (sub_cons rfl (sub_cons rfl (sub_cons rfl (sub_cons rfl (sub_cons rfl (sub_cons rfl (sub_cons rfl (sub_cons rfl (sub_cons rfl (sub_cons rfl (sub_cons rfl (sub_cons rfl sub_nil)))))))))))) ?_ (fun HJ19 => ?_)
        · rintro ⟨jx1, jk1, jx2, jk2, jx3, jk3, jx4, jk4, jx5, jk5, jx6, jk6, jx7, jk7, jx8, jk8, jx9, jk9, jx10, jk10, JB⟩
          simp only [updL, List.foldl_cons, List.foldl_nil, List.set_cons_succ, List.set_cons_zero, List.cons_append, List.nil_append]
          refine gk_then (hK18 _ _ ?_)
          refine gc_seq fun K20 hK20 => ?_
          refine gc_region ?_
          refine g_v (.free rfl) rfl rfl (qt_loadS (n := 0) rfl rfl Try.underlying25 rfl (by kernel_rfl) rfl) ?_
          refine g_op (.free rfl) fun K22 hK22 => ?_
          refine go_callC1 rfl rfl rfl Try.func16 rfl (by decide) rfl (fun w M => toC_any w _ _ (mem_rdC M R0)) ?_
          intro ca21 cb21 cc21 cd21 ce21 cf21 cg21 ch21
          refine hK22 _ _ ?_
          refine g_op (.free rfl) fun K24 hK24 => ?_
          refine go_alloc (z := (.agg #[.int .i64 0, .slice none 0 0, .slice none 0 0, .slice none 0 0, .slice none 0 0])) (cs := [.int .i64 0, .slice none 0 0, .slice none 0 0, .slice none 0 0, .slice none 0 0]) rfl rfl rfl (fun w => by kernel_rfl) rfl ?_
          intro B23
          refine hK24 _ _ ?_
          refine g_op (.free rfl) fun K25 hK25 => ?_
          refine go_storeS (n := 6) rfl rfl rfl rfl (by kernel_rfl) rfl rfl rfl ?_
          refine hK25 _ _ ?_
          refine g_nil ?_
          refine gk_then (hK20 _ _ ?_)
          refine gc_seq fun K26 hK26 => ?_
          refine gc_region ?_
          refine g_v (.free rfl) rfl rfl (qt_loadS (n := 1) rfl rfl Try.underlying25 rfl (by kernel_rfl) rfl) ?_
          refine g_op (.free rfl) fun K28 hK28 => ?_
          refine go_callC1 rfl rfl rfl Try.func16 rfl (by decide) rfl (fun w M => toC_any w _ _ (mem_rdC M R1)) ?_
          intro ca27 cb27 cc27 cd27 ce27 cf27 cg27 ch27
          refine hK28 _ _ ?_
          refine g_op (.free rfl) fun K30 hK30 => ?_
          refine go_alloc (z := (.agg #[.int .i64 0, .slice none 0 0, .slice none 0 0, .slice none 0 0, .slice none 0 0])) (cs := [.int .i64 0, .slice none 0 0, .slice none 0 0, .slice none 0 0, .slice none 0 0]) rfl rfl rfl (fun w => by kernel_rfl) rfl ?_
          intro B29
          refine hK30 _ _ ?_
          refine g_op (.free rfl) fun K31 hK31 => ?_
          refine go_storeS (n := 8) rfl rfl rfl rfl (by kernel_rfl) rfl rfl rfl ?_
          refine hK31 _ _ ?_
          refine g_nil ?_
          refine gk_then (hK26 _ _ ?_)
          refine gc_seq fun K32 hK32 => ?_
          refine gc_region ?_
          refine g_v (.free rfl) rfl rfl (qt_loadS (n := 2) rfl rfl Try.underlying27 rfl (by kernel_rfl) rfl) ?_
          refine g_op (.free rfl) fun K34 hK34 => ?_
          refine go_callFn1 rfl rfl rfl Try.func17 rfl (by decide) rfl (fun w M => toF_any w _ _ (mem_rdF M R2)) ?_
          intro fx1_33 fk1_33 fx2_33 fk2_33 fx3_33 fk3_33 fx4_33 fk4_33 fx5_33 fk5_33 fx6_33 fk6_33 fx7_33 fk7_33 fx8_33 fk8_33 fx9_33 fk9_33 fx10_33 fk10_33
          refine hK34 _ _ ?_
          refine g_op (.free rfl) fun K36 hK36 => ?_
          refine go_alloc (z := (.agg #[.int .i64 0, .slice none 0 0, .slice none 0 0, .slice none 0 0, .slice none 0 0, .int .i64 0, .slice none 0 0, .slice none 0 0, .slice none 0 0, .slice none 0 0, .slice none 0 0, .slice none 0 0])) (cs := [.int .i64 0, .slice none 0 0, .slice none 0 0, .slice none 0 0, .slice none 0 0, .int .i64 0, .slice none 0 0, .slice none 0 0, .slice none 0 0, .slice none 0 0, .slice none 0 0, .slice none 0 0]) rfl rfl rfl (fun w => by kernel_rfl) rfl ?_
          intro B35
          refine hK36 _ _ ?_
          refine g_op (.free rfl) fun K37 hK37 => ?_
          refine go_storeS (n := 10) rfl rfl rfl rfl (by kernel_rfl) rfl rfl rfl ?_
          refine hK37 _ _ ?_
          refine g_nil ?_
          refine gk_then (hK32 _ _ ?_)
          refine gc_seq fun K38 hK38 => ?_
          refine gc_region ?_
          refine g_v (.free rfl) rfl rfl (qt_loadS (n := 6) rfl rfl Try.underlying30 rfl (by kernel_rfl) rfl) ?_
          refine g_v (.free rfl) rfl rfl (qt_loadS (n := 8) rfl rfl Try.underlying30 rfl (by kernel_rfl) rfl) ?_
          refine g_v (.free rfl) rfl rfl (qt_loadS (n := 10) rfl rfl Try.underlying32 rfl (by kernel_rfl) rfl) ?_
          refine g_v (.free rfl) rfl rfl (qt_move rfl rfl) ?_
          refine g_op (.free rfl) fun K40 hK40 => ?_
          refine go_callFI1 rfl rfl rfl Try.func25 rfl (by decide) rfl (fun w M => himpl w _ _ _ ((mem_ownC (n := 5) M rfl).rd) ((mem_ownC (n := 7) M rfl).rd) ((mem_ownF (n := 9) M rfl).rd)) ?_
          intro fx1_39 fk1_39 fx2_39 fk2_39 fx3_39 fk3_39 fx4_39 fk4_39 fx5_39 fk5_39 fx6_39 fk6_39 fx7_39 fk7_39 fx8_39 fk8_39 fx9_39 fk9_39 fx10_39 fk10_39
          refine hK40 _ _ ?_
          refine g_v (.free rfl) rfl rfl (qt_move rfl rfl) ?_
          refine g_v (.free rfl) rfl rfl (qt_extract rfl rfl rfl) ?_
          refine g_v (.free rfl) rfl rfl (qt_extract rfl rfl rfl) ?_
          refine g_op (.free rfl) fun K42 hK42 => ?_
          refine go_alloc (z := (.agg #[.int .i64 0, .slice none 0 0, .slice none 0 0, .slice none 0 0, .slice none 0 0, .int .i64 0, .slice none 0 0, .slice none 0 0, .slice none 0 0, .slice none 0 0, .slice none 0 0, .slice none 0 0])) (cs := [.int .i64 0, .slice none 0 0, .slice none 0 0, .slice none 0 0, .slice none 0 0, .int .i64 0, .slice none 0 0, .slice none 0 0, .slice none 0 0, .slice none 0 0, .slice none 0 0, .slice none 0 0]) rfl rfl rfl (fun w => by kernel_rfl) rfl ?_
          intro B41
          refine hK42 _ _ ?_
          refine g_op (.free rfl) fun K43 hK43 => ?_
          refine go_storeS (n := 12) rfl rfl rfl rfl (by kernel_rfl) rfl rfl rfl ?_
          refine hK43 _ _ ?_
          refine g_v (.free rfl) rfl rfl (qt_assign rfl rfl) ?_
          refine g_nil ?_
          refine gk_then (hK38 _ _ ?_)
          refine gc_seq fun K44 hK44 => ?_
          refine gc_seq fun K45 hK45 => ?_
          refine gc_region ?_
          refine g_v (.free rfl) rfl rfl (qt_loadS (n := 12) rfl rfl Try.underlying32 rfl (by kernel_rfl) rfl) ?_
          refine g_v (.free rfl) rfl rfl (qt_loadS (n := 4) rfl rfl Try.underlying32 rfl (by kernel_rfl) rfl) ?_
          refine g_q (.free rfl) rfl rfl (qt_call rfl Try.func19 rfl (by decide) rfl (fun w M => eqF_refl_any w _ _ _ ((mem_ownF (n := 11) M rfl).rd) ((mem_ownF (n := 3) M rfl).rd))) ?_
          refine g_v (.free rfl) rfl rfl (qt_not rfl rfl) ?_
          refine g_v (.free rfl) rfl rfl (qt_move rfl rfl) ?_
          refine g_v (.held _ _ _ rfl rfl rfl) rfl rfl (qt_move rfl rfl) ?_
          refine g_v (.held _ _ _ rfl rfl rfl) rfl rfl (qt_move rfl rfl) ?_
          refine g_v (.held _ _ _ rfl rfl rfl) rfl rfl (qt_neq_f rfl rfl rfl (fun h => h rfl)) ?_
          refine g_v (.free rfl) rfl rfl (qt_pick_f rfl rfl rfl) ?_
          refine g_nil ?_
          refine gk_then (hK45 _ _ ?_)
          refine gc_cond_f rfl ?_
          refine gc_skip ?_
          refine gk_then (hK44 _ _ ?_)
          refine gc_seq fun K46 hK46 => ?_
          refine gc_seq fun K47 hK47 => ?_
          try simp only [List.nil_append, List.cons_append, List.append_assoc, List.set_cons_succ, List.set_cons_zero]
          refine ga_start _ (fun w M => M) ?_
          refine ga_v 0 rfl (by kernel_rfl) (by kernel_rfl) (by kernel_rfl) (.free rfl) rfl rfl (qt_loadS (n := 6) rfl rfl Try.underlying30 rfl (by kernel_rfl) rfl) (fun _ _ _ h => h) ?_
          refine ga_v 1 rfl (by kernel_rfl) (by kernel_rfl) (by kernel_rfl) (.free rfl) rfl rfl (qt_loadS (n := 0) rfl rfl Try.underlying25 rfl (by kernel_rfl) rfl) (fun _ _ _ h => h) ?_
          refine ga_op 2 (by kernel_rfl) rfl (.free rfl) fun K49 hK49 => ?_
          refine go_callC1 rfl rfl rfl Try.func16 rfl (by decide) rfl (fun w M => toC_any w _ _ (mem_rdC M R0)) ?_
          intro ca48 cb48 cc48 cd48 ce48 cf48 cg48 ch48
          refine hK49 _ _ (fun w M => (mem_take 13 M :)) ?_
          refine ga_op 3 (by kernel_rfl) rfl (.free rfl) fun K50 hK50 => ?_
          refine go_q rfl rfl (qt_call rfl Try.func20 rfl (by decide) rfl (fun w M => eqC_refl_any w _ _ _ ((mem_ownC (n := 5) M rfl).rd) ((mem_ownC (n := 13) M rfl).rd))) ?_
          refine hK50 _ _ (fun w M => (mem_take 13 M :)) ?_
          refine ga_v 4 rfl (by kernel_rfl) (by kernel_rfl) (by kernel_rfl) (.free rfl) rfl rfl (qt_not rfl rfl) (fun _ _ _ h => h) ?_
          refine ga_done (by kernel_rfl) ?_
          refine gk_then (hK47 _ _ ?_)
          refine gc_cond_f rfl ?_
          refine gc_skip ?_
          refine gk_then (hK46 _ _ ?_)
          refine gc_seq fun K51 hK51 => ?_
          refine gc_seq fun K52 hK52 => ?_
          try simp only [List.nil_append, List.cons_append, List.append_assoc, List.set_cons_succ, List.set_cons_zero]
          refine ga_start _ (fun w M => M) ?_
          refine ga_v 0 rfl (by kernel_rfl) (by kernel_rfl) (by kernel_rfl) (.free rfl) rfl rfl (qt_loadS (n := 8) rfl rfl Try.underlying30 rfl (by kernel_rfl) rfl) (fun _ _ _ h => h) ?_
          refine ga_v 1 rfl (by kernel_rfl) (by kernel_rfl) (by kernel_rfl) (.free rfl) rfl rfl (qt_loadS (n := 1) rfl rfl Try.underlying25 rfl (by kernel_rfl) rfl) (fun _ _ _ h => h) ?_
          refine ga_op 2 (by kernel_rfl) rfl (.free rfl) fun K54 hK54 => ?_
          refine go_callC1 rfl rfl rfl Try.func16 rfl (by decide) rfl (fun w M => toC_any w _ _ (mem_rdC M R1)) ?_
          intro ca53 cb53 cc53 cd53 ce53 cf53 cg53 ch53
          refine hK54 _ _ (fun w M => (mem_take 14 M :)) ?_
          refine ga_op 3 (by kernel_rfl) rfl (.free rfl) fun K55 hK55 => ?_
          refine go_q rfl rfl (qt_call rfl Try.func20 rfl (by decide) rfl (fun w M => eqC_refl_any w _ _ _ ((mem_ownC (n := 7) M rfl).rd) ((mem_ownC (n := 14) M rfl).rd))) ?_
          refine hK55 _ _ (fun w M => (mem_take 14 M :)) ?_
          refine ga_v 4 rfl (by kernel_rfl) (by kernel_rfl) (by kernel_rfl) (.free rfl) rfl rfl (qt_not rfl rfl) (fun _ _ _ h => h) ?_
          refine ga_done (by kernel_rfl) ?_
          refine gk_then (hK52 _ _ ?_)
          refine gc_cond_f rfl ?_
          refine gc_skip ?_
          refine gk_then (hK51 _ _ ?_)
          refine gc_seq fun K56 hK56 => ?_
          refine gc_seq fun K57 hK57 => ?_
          try simp only [List.nil_append, List.cons_append, List.append_assoc, List.set_cons_succ, List.set_cons_zero]
          refine ga_start _ (fun w M => M) ?_
          refine ga_v 0 rfl (by kernel_rfl) (by kernel_rfl) (by kernel_rfl) (.free rfl) rfl rfl (qt_loadS (n := 10) rfl rfl Try.underlying32 rfl (by kernel_rfl) rfl) (fun _ _ _ h => h) ?_
          refine ga_v 1 rfl (by kernel_rfl) (by kernel_rfl) (by kernel_rfl) (.free rfl) rfl rfl (qt_loadS (n := 2) rfl rfl Try.underlying27 rfl (by kernel_rfl) rfl) (fun _ _ _ h => h) ?_
          refine ga_op 2 (by kernel_rfl) rfl (.free rfl) fun K59 hK59 => ?_
          refine go_callFn1 rfl rfl rfl Try.func17 rfl (by decide) rfl (fun w M => toF_any w _ _ (mem_rdF M R2)) ?_
          intro fx1_58 fk1_58 fx2_58 fk2_58 fx3_58 fk3_58 fx4_58 fk4_58 fx5_58 fk5_58 fx6_58 fk6_58 fx7_58 fk7_58 fx8_58 fk8_58 fx9_58 fk9_58 fx10_58 fk10_58
          refine hK59 _ _ (fun w M => (mem_take 15 M :)) ?_
          refine ga_op 3 (by kernel_rfl) rfl (.free rfl) fun K60 hK60 => ?_
          refine go_q rfl rfl (qt_call rfl Try.func19 rfl (by decide) rfl (fun w M => eqF_refl_any w _ _ _ ((mem_ownF (n := 9) M rfl).rd) ((mem_ownF (n := 15) M rfl).rd))) ?_
          refine hK60 _ _ (fun w M => (mem_take 15 M :)) ?_
          refine ga_v 4 rfl (by kernel_rfl) (by kernel_rfl) (by kernel_rfl) (.free rfl) rfl rfl (qt_not rfl rfl) (fun _ _ _ h => h) ?_
          refine ga_done (by kernel_rfl) ?_
          refine gk_then (hK57 _ _ ?_)
          refine gc_cond_f rfl ?_
          refine gc_skip ?_
          refine gk_then (hK56 _ _ ?_)
          refine gc_seq fun K61 hK61 => ?_
          refine gc_region ?_
          refine g_v (.free rfl) rfl rfl (qt_assign rfl rfl) ?_
          refine g_nil ?_
          refine gk_then (hK61 _ _ ?_)
          refine gc_seq fun K62 hK62 => ?_
          refine gc_region ?_
          refine g_v (.free rfl) rfl rfl (qt_loadS (n := 6) rfl rfl Try.underlying30 rfl (by kernel_rfl) rfl) ?_
          refine g_v (.free rfl) rfl rfl (qt_move rfl rfl) ?_
          refine g_op (.free rfl) fun K63 hK63 => ?_
          refine go_mark (ownCI _ (mkC _ _)) (n := 5) rfl rfl rfl Try.func21 rfl (by decide) rfl rfl (fun w S hS => markC_any w S _ _ _ hS (by omega) (by omega)) ?_
          refine hK63 _ _ ?_
          refine g_v (.free rfl) rfl rfl (qt_assign rfl rfl) ?_
          refine g_nil ?_
          refine gk_then (hK62 _ _ ?_)
          refine gc_seq fun K64 hK64 => ?_
          refine gc_region ?_
          refine g_v (.free rfl) rfl rfl (qt_loadS (n := 8) rfl rfl Try.underlying30 rfl (by kernel_rfl) rfl) ?_
          refine g_v (.free rfl) rfl rfl (qt_move rfl rfl) ?_
          refine g_op (.free rfl) fun K65 hK65 => ?_
          refine go_mark (ownCI _ (mkC _ _)) (n := 7) rfl rfl rfl Try.func21 rfl (by decide) rfl rfl (fun w S hS => markC_any w S _ _ _ hS (by omega) (by omega)) ?_
          refine hK65 _ _ ?_
          refine g_v (.free rfl) rfl rfl (qt_assign rfl rfl) ?_
          refine g_nil ?_
          refine gk_then (hK64 _ _ ?_)
          refine gc_seq fun K66 hK66 => ?_
          refine gc_region ?_
          refine g_v (.free rfl) rfl rfl (qt_loadS (n := 10) rfl rfl Try.underlying32 rfl (by kernel_rfl) rfl) ?_
          refine g_v (.free rfl) rfl rfl (qt_move rfl rfl) ?_
          refine g_op (.free rfl) fun K67 hK67 => ?_
          refine go_one (n := 9) rfl rfl rfl Try.func22 rfl (by decide) rfl rfl (fun R w M => markF1_any _ w R _ _ _ _ _ _ _ _ _ _ _ _ (by omega) (by omega) M) ?_
          refine hK67 _ _ ?_
          refine g_v (.free rfl) rfl rfl (qt_assign rfl rfl) ?_
          refine g_nil ?_
          refine gk_then (hK66 _ _ ?_)
          refine gc_seq fun K68 hK68 => ?_
          refine gc_seq fun K69 hK69 => ?_
          refine gc_region ?_
          refine g_v (.free rfl) rfl rfl (qt_move rfl rfl) ?_
          refine g_v (.free rfl) rfl rfl (qt_lss rfl rfl rfl) ?_
          refine g_splitv (.free rfl) rfl rfl (qt_move rfl rfl) (fun hs28_2 => ?_) (fun hs28_2 => ?_)
          · try simp only [decide_eq_true_eq, decide_eq_false_iff_not, Bool.not_eq_true', Bool.not_eq_false', Bool.not_eq_eq_eq_not, Bool.not_true, Bool.not_false, ne_eq, Decidable.not_not, Classical.not_not] at hs28_2
            first | (exfalso; omega) | exact absurd rfl hs28_2 | (simp at hs28_2)
          · try simp only [decide_eq_true_eq, decide_eq_false_iff_not, Bool.not_eq_true', Bool.not_eq_false', Bool.not_eq_eq_eq_not, Bool.not_true, Bool.not_false, ne_eq, Decidable.not_not, Classical.not_not] at hs28_2
            refine g_v (.held _ _ _ rfl rfl rfl) rfl rfl (qt_loadS (n := 12) rfl rfl Try.underlying32 rfl (by kernel_rfl) rfl) ?_
            refine g_v (.held _ _ _ rfl rfl rfl) rfl rfl (qt_loadS (n := 4) rfl rfl Try.underlying32 rfl (by kernel_rfl) rfl) ?_
            refine g_q (.held _ _ _ rfl rfl rfl) rfl rfl (qt_call rfl Try.func19 rfl (by decide) rfl (fun w M => eqF_refl_any w _ _ _ ((mem_ownF (n := 11) M rfl).rd) ((mem_ownF (n := 3) M rfl).rd))) ?_
            refine g_v (.held _ _ _ rfl rfl rfl) rfl rfl (qt_not rfl rfl) ?_
            refine g_v (.free rfl) rfl rfl (qt_pick_f rfl rfl rfl) ?_
            refine g_v (.free rfl) rfl rfl (qt_move rfl rfl) ?_
            refine g_v (.held _ _ _ rfl rfl rfl) rfl rfl (qt_move rfl rfl) ?_
            refine g_v (.held _ _ _ rfl rfl rfl) rfl rfl (qt_move rfl rfl) ?_
            refine g_v (.held _ _ _ rfl rfl rfl) rfl rfl (qt_neq_f rfl rfl rfl (fun h => h rfl)) ?_
            refine g_v (.free rfl) rfl rfl (qt_pick_f rfl rfl rfl) ?_
            refine g_nil ?_
            refine gk_then (hK69 _ _ ?_)
            refine gc_cond_f rfl ?_
            refine gc_skip ?_
            refine gk_then (hK68 _ _ ?_)
            refine gc_seq fun K70 hK70 => ?_
            refine gc_region ?_
            refine g_v (.free rfl) rfl rfl (qt_assign rfl rfl) ?_
            refine g_nil ?_
            refine gk_then (hK70 _ _ ?_)
            refine gc_seq fun K71 hK71 => ?_
            refine gc_region ?_
            refine g_v (.free rfl) rfl rfl (qt_loadS (n := 12) rfl rfl Try.underlying32 rfl (by kernel_rfl) rfl) ?_
            refine g_v (.free rfl) rfl rfl (qt_move rfl rfl) ?_
            refine g_op (.free rfl) fun K72 hK72 => ?_
            refine go_one (n := 11) rfl rfl rfl Try.func22 rfl (by decide) rfl rfl (fun R w M => markF1_any _ w R _ _ _ _ _ _ _ _ _ _ _ _ (by omega) (by omega) M) ?_
            refine hK72 _ _ ?_
            refine g_v (.free rfl) rfl rfl (qt_assign rfl rfl) ?_
            refine g_nil ?_
            refine gk_then (hK71 _ _ ?_)
            refine gc_seq fun K73 hK73 => ?_
            refine gc_region ?_
            refine g_v (.free rfl) rfl rfl (qt_assign rfl rfl) ?_
            refine g_nil ?_
            refine gk_then (hK73 _ _ ?_)
            refine gc_seq fun K74 hK74 => ?_
            refine gc_region ?_
            refine g_v (.free rfl) rfl rfl (qt_loadS (n := 12) rfl rfl Try.underlying32 rfl (by kernel_rfl) rfl) ?_
            refine g_v (.free rfl) rfl rfl (qt_move rfl rfl) ?_
            refine g_q (.free rfl) rfl rfl (qt_call rfl Try.func23 rfl (by decide) rfl (fun w M => heldF_any w _ _ _ ((mem_ownF (n := 11) M rfl).rd) (by first | assumption | omega) (by first | assumption | omega))) ?_
            refine g_v (.free rfl) rfl rfl (qt_assign rfl rfl) ?_
            refine g_nil ?_
            refine gk_then (hK74 _ _ ?_)
            refine gc_seq fun K75 hK75 => ?_
            refine gc_seq fun K76 hK76 => ?_
            refine gc_region ?_
            refine g_v (.free rfl) rfl rfl (qt_move rfl rfl) ?_
            refine g_v (.free rfl) rfl rfl (qt_lss rfl rfl rfl) ?_
            refine g_nil ?_
            refine gk_then (hK76 _ _ ?_)
            refine gc_cond rfl (fun hc3 => ?_) (fun hc3 => ?_)
            · try simp only [decide_eq_true_eq, decide_eq_false_iff_not, Bool.not_eq_true', Bool.not_eq_false', Bool.not_eq_eq_eq_not, Bool.not_true, Bool.not_false, ne_eq, Decidable.not_not, Classical.not_not] at hc3
              first | (exfalso; omega) | exact absurd rfl hc3 | (simp at hc3)
            · try simp only [decide_eq_true_eq, decide_eq_false_iff_not, Bool.not_eq_true', Bool.not_eq_false', Bool.not_eq_eq_eq_not, Bool.not_true, Bool.not_false, ne_eq, Decidable.not_not, Classical.not_not] at hc3
              refine gc_skip ?_
              refine gk_then (hK75 _ _ ?_)
              refine gc_seq fun K77 hK77 => ?_
              refine gc_seq fun K78 hK78 => ?_
              refine gc_region ?_
              refine g_v (.free rfl) rfl rfl (qt_move rfl rfl) ?_
              refine g_v (.free rfl) rfl rfl (qt_move rfl rfl) ?_
              refine g_v (.free rfl) rfl rfl (qt_neq rfl rfl rfl) ?_
              refine g_nil ?_
              refine gk_then (hK78 _ _ ?_)
              refine gc_cond rfl (fun hc4 => ?_) (fun hc4 => ?_)
              · try simp only [decide_eq_true_eq, decide_eq_false_iff_not, Bool.not_eq_true', Bool.not_eq_false', Bool.not_eq_eq_eq_not, Bool.not_true, Bool.not_false, ne_eq, Decidable.not_not, Classical.not_not] at hc4
                first | (exfalso; omega) | exact absurd rfl hc4 | (simp at hc4)
              · try simp only [decide_eq_true_eq, decide_eq_false_iff_not, Bool.not_eq_true', Bool.not_eq_false', Bool.not_eq_eq_eq_not, Bool.not_true, Bool.not_false, ne_eq, Decidable.not_not, Classical.not_not] at hc4
                refine gc_skip ?_
                refine gk_then (hK77 _ _ ?_)
                refine gc_seq fun K79 hK79 => ?_
                try simp only [List.nil_append, List.cons_append, List.append_assoc, List.set_cons_succ, List.set_cons_zero]
                refine gc_cut ([(0, _), (1, _), (2, _), (3, _), (4, _), (5, _), (6, _), (8, _), (9, _), (10, _), (11, _), (12, _), (13, _), (14, _), (15, _), (16, _), (17, _), (18, _), (19, _), (26, _), (31, _), (36, _), (70, _), (75, _), (80, _), (85, _), (107, _), (115, _), (118, _)] : Env) (fun s : (Option Addr) × Nat × (Option Addr) × Nat × (Option Addr) × Nat × (Option Addr) × Nat × (Option Addr) × Nat × (Option Addr) × Nat × (Option Addr) × Nat × (Option Addr) × Nat × (Option Addr) × Nat × (Option Addr) × Nat × Nat => (fun (jx1 : Option Addr) (jk1 : Nat) (jx2 : Option Addr) (jk2 : Nat) (jx3 : Option Addr) (jk3 : Nat) (jx4 : Option Addr) (jk4 : Nat) (jx5 : Option Addr) (jk5 : Nat) (jx6 : Option Addr) (jk6 : Nat) (jx7 : Option Addr) (jk7 : Nat) (jx8 : Option Addr) (jk8 : Nat) (jx9 : Option Addr) (jk9 : Nat) (jx10 : Option Addr) (jk10 : Nat) (JB : Nat) => ([(20, .pointer (some ⟨JB, 0, none⟩)), (21, .int .i64 r1)] : Env)) s.1 s.2.1 s.2.2.1 s.2.2.2.1 s.2.2.2.2.1 s.2.2.2.2.2.1 s.2.2.2.2.2.2.1 s.2.2.2.2.2.2.2.1 s.2.2.2.2.2.2.2.2.1 s.2.2.2.2.2.2.2.2.2.1 s.2.2.2.2.2.2.2.2.2.2.1 s.2.2.2.2.2.2.2.2.2.2.2.1 s.2.2.2.2.2.2.2.2.2.2.2.2.1 s.2.2.2.2.2.2.2.2.2.2.2.2.2.1 s.2.2.2.2.2.2.2.2.2.2.2.2.2.2.1 s.2.2.2.2.2.2.2.2.2.2.2.2.2.2.2.1 s.2.2.2.2.2.2.2.2.2.2.2.2.2.2.2.2.1 s.2.2.2.2.2.2.2.2.2.2.2.2.2.2.2.2.2.1 s.2.2.2.2.2.2.2.2.2.2.2.2.2.2.2.2.2.2.1 s.2.2.2.2.2.2.2.2.2.2.2.2.2.2.2.2.2.2.2.1 s.2.2.2.2.2.2.2.2.2.2.2.2.2.2.2.2.2.2.2.2) (fun s : (Option Addr) × Nat × (Option Addr) × Nat × (Option Addr) × Nat × (Option Addr) × Nat × (Option Addr) × Nat × (Option Addr) × Nat × (Option Addr) × Nat × (Option Addr) × Nat × (Option Addr) × Nat × (Option Addr) × Nat × Nat => (fun (jx1 : Option Addr) (jk1 : Nat) (jx2 : Option Addr) (jk2 : Nat) (jx3 : Option Addr) (jk3 : Nat) (jx4 : Option Addr) (jk4 : Nat) (jx5 : Option Addr) (jk5 : Nat) (jx6 : Option Addr) (jk6 : Nat) (jx7 : Option Addr) (jk7 : Nat) (jx8 : Option Addr) (jk8 : Nat) (jx9 : Option Addr) (jk9 : Nat) (jx10 : Option Addr) (jk10 : Nat) (JB : Nat) => ([] : List (Nat × Itm))) s.1 s.2.1 s.2.2.1 s.2.2.2.1 s.2.2.2.2.1 s.2.2.2.2.2.1 s.2.2.2.2.2.2.1 s.2.2.2.2.2.2.2.1 s.2.2.2.2.2.2.2.2.1 s.2.2.2.2.2.2.2.2.2.1 s.2.2.2.2.2.2.2.2.2.2.1 s.2.2.2.2.2.2.2.2.2.2.2.1 s.2.2.2.2.2.2.2.2.2.2.2.2.1 s.2.2.2.2.2.2.2.2.2.2.2.2.2.1 s.2.2.2.2.2.2.2.2.2.2.2.2.2.2.1 s.2.2.2.2.2.2.2.2.2.2.2.2.2.2.2.1 s.2.2.2.2.2.2.2.2.2.2.2.2.2.2.2.2.1 s.2.2.2.2.2.2.2.2.2.2.2.2.2.2.2.2.2.1 s.2.2.2.2.2.2.2.2.2.2.2.2.2.2.2.2.2.2.1 s.2.2.2.2.2.2.2.2.2.2.2.2.2.2.2.2.2.2.2.1 s.2.2.2.2.2.2.2.2.2.2.2.2.2.2.2.2.2.2.2.2) (fun s : (Option Addr) × Nat × (Option Addr) × Nat × (Option Addr) × Nat × (Option Addr) × Nat × (Option Addr) × Nat × (Option Addr) × Nat × (Option Addr) × Nat × (Option Addr) × Nat × (Option Addr) × Nat × (Option Addr) × Nat × Nat => (fun (jx1 : Option Addr) (jk1 : Nat) (jx2 : Option Addr) (jk2 : Nat) (jx3 : Option Addr) (jk3 : Nat) (jx4 : Option Addr) (jk4 : Nat) (jx5 : Option Addr) (jk5 : Nat) (jx6 : Option Addr) (jk6 : Nat) (jx7 : Option Addr) (jk7 : Nat) (jx8 : Option Addr) (jk8 : Nat) (jx9 : Option Addr) (jk9 : Nat) (jx10 : Option Addr) (jk10 : Nat) (JB : Nat) => ([ownFI (.agg #[.int .i64 r0.S.ob, .slice jx1 r0.S.s.length jk1, .slice jx2 r0.S.t.length jk2, .slice jx3 r0.S.e.length jk3, .slice jx4 r0.S.m.length jk4, .int .i64 r0.T.ob, .slice jx5 r0.T.s.length jk5, .slice jx6 r0.T.t.length jk6, .slice jx7 r0.T.e.length jk7, .slice jx8 r0.T.m.length jk8, .slice jx9 r0.o.length jk9, .slice jx10 r0.a.length jk10]) r0, bxI JB 32 [.int .i64 r0.S.ob, .slice jx1 r0.S.s.length jk1, .slice jx2 r0.S.t.length jk2, .slice jx3 r0.S.e.length jk3, .slice jx4 r0.S.m.length jk4, .int .i64 r0.T.ob, .slice jx5 r0.T.s.length jk5, .slice jx6 r0.T.t.length jk6, .slice jx7 r0.T.e.length jk7, .slice jx8 r0.T.m.length jk8, .slice jx9 r0.o.length jk9, .slice jx10 r0.a.length jk10]] : List Itm)) s.1 s.2.1 s.2.2.1 s.2.2.2.1 s.2.2.2.2.1 s.2.2.2.2.2.1 s.2.2.2.2.2.2.1 s.2.2.2.2.2.2.2.1 s.2.2.2.2.2.2.2.2.1 s.2.2.2.2.2.2.2.2.2.1 s.2.2.2.2.2.2.2.2.2.2.1 s.2.2.2.2.2.2.2.2.2.2.2.1 s.2.2.2.2.2.2.2.2.2.2.2.2.1 s.2.2.2.2.2.2.2.2.2.2.2.2.2.1 s.2.2.2.2.2.2.2.2.2.2.2.2.2.2.1 s.2.2.2.2.2.2.2.2.2.2.2.2.2.2.2.1 s.2.2.2.2.2.2.2.2.2.2.2.2.2.2.2.2.1 s.2.2.2.2.2.2.2.2.2.2.2.2.2.2.2.2.2.1 s.2.2.2.2.2.2.2.2.2.2.2.2.2.2.2.2.2.2.1 s.2.2.2.2.2.2.2.2.2.2.2.2.2.2.2.2.2.2.2.1 s.2.2.2.2.2.2.2.2.2.2.2.2.2.2.2.2.2.2.2.2) (sub_cons rfl (sub_cons rfl (sub_cons rfl (sub_cons rfl (sub_cons rfl (sub_cons rfl (sub_cons rfl (sub_cons rfl (sub_cons rfl (sub_cons rfl (sub_cons rfl (sub_cons rfl (sub_cons rfl (sub_cons rfl (sub_cons rfl (sub_cons rfl (sub_cons rfl (sub_cons rfl (sub_cons rfl (sub_cons rfl (sub_cons rfl (sub_cons rfl (sub_cons rfl (sub_cons rfl (sub_cons rfl (sub_cons rfl (sub_cons rfl (sub_cons rfl (sub_cons rfl sub_nil))))))))))))))))))))))))))))) ?_ (fun HJ80 => ?_)
                · rintro ⟨jx1, jk1, jx2, jk2, jx3, jk3, jx4, jk4, jx5, jk5, jx6, jk6, jx7, jk7, jx8, jk8, jx9, jk9, jx10, jk10, JB⟩
                  simp only [updL, List.foldl_cons, List.foldl_nil, List.set_cons_succ, List.set_cons_zero, List.cons_append, List.nil_append]
                  refine gk_then (hK79 _ _ ?_)
                  refine gc_seq fun K81 hK81 => ?_
                  refine gc_seq fun K82 hK82 => ?_
                  refine gc_region ?_
                  refine g_v (.free rfl) rfl rfl (qt_loadS (n := 17) rfl rfl Try.underlying32 rfl (by kernel_rfl) rfl) ?_
                  refine g_v (.free rfl) rfl rfl (qt_loadS (n := 4) rfl rfl Try.underlying32 rfl (by kernel_rfl) rfl) ?_
                  refine g_q (.free rfl) rfl rfl (qt_call rfl Try.func19 rfl (by decide) rfl (fun w M => eqF_refl_any w _ _ _ ((mem_ownF (n := 16) M rfl).rd) ((mem_ownF (n := 3) M rfl).rd))) ?_
                  refine g_v (.free rfl) rfl rfl (qt_not rfl rfl) ?_
                  refine g_v (.free rfl) rfl rfl (qt_move rfl rfl) ?_
                  refine g_v (.held _ _ _ rfl rfl rfl) rfl rfl (qt_move rfl rfl) ?_
                  refine g_v (.held _ _ _ rfl rfl rfl) rfl rfl (qt_move rfl rfl) ?_
                  refine g_v (.held _ _ _ rfl rfl rfl) rfl rfl (qt_neq_f rfl rfl rfl (fun h => h rfl)) ?_
                  refine g_v (.free rfl) rfl rfl (qt_pick_f rfl rfl rfl) ?_
                  refine g_nil ?_
                  refine gk_then (hK82 _ _ ?_)
                  refine gc_cond_f rfl ?_
                  refine gc_skip ?_
                  refine gk_then (hK81 _ _ ?_)
                  refine gc_seq fun K83 hK83 => ?_
                  refine gc_region ?_
                  refine g_v (.free rfl) rfl rfl (qt_assign rfl rfl) ?_
                  refine g_nil ?_
                  refine gk_then (hK83 _ _ ?_)
                  refine gc_seq fun K84 hK84 => ?_
                  refine gc_region ?_
                  refine g_v (.free rfl) rfl rfl (qt_loadS (n := 12) rfl rfl Try.underlying32 rfl (by kernel_rfl) rfl) ?_
                  refine g_v (.free rfl) rfl rfl (qt_move rfl rfl) ?_
                  refine g_q (.free rfl) rfl rfl (qt_call rfl Try.func23 rfl (by decide) rfl (fun w M => heldF_any w _ _ _ ((mem_ownF (n := 11) M rfl).rd) (by first | assumption | omega) (by first | assumption | omega))) ?_
                  refine g_v (.free rfl) rfl rfl (qt_assign rfl rfl) ?_
                  refine g_nil ?_
                  refine gk_then (hK84 _ _ ?_)
                  refine gc_seq fun K85 hK85 => ?_
                  refine gc_seq fun K86 hK86 => ?_
                  refine gc_region ?_
                  refine g_v (.free rfl) rfl rfl (qt_move rfl rfl) ?_
                  refine g_v (.free rfl) rfl rfl (qt_lss rfl rfl rfl) ?_
                  refine g_nil ?_
                  refine gk_then (hK86 _ _ ?_)
                  refine gc_cond rfl (fun hc5 => ?_) (fun hc5 => ?_)
                  · try simp only [decide_eq_true_eq, decide_eq_false_iff_not, Bool.not_eq_true', Bool.not_eq_false', Bool.not_eq_eq_eq_not, Bool.not_true, Bool.not_false, ne_eq, Decidable.not_not, Classical.not_not] at hc5
                    first | (exfalso; omega) | exact absurd rfl hc5 | (simp at hc5)
                  · try simp only [decide_eq_true_eq, decide_eq_false_iff_not, Bool.not_eq_true', Bool.not_eq_false', Bool.not_eq_eq_eq_not, Bool.not_true, Bool.not_false, ne_eq, Decidable.not_not, Classical.not_not] at hc5
                    refine gc_skip ?_
                    refine gk_then (hK85 _ _ ?_)
                    refine gc_seq fun K87 hK87 => ?_
                    refine gc_seq fun K88 hK88 => ?_
                    refine gc_region ?_
                    refine g_v (.free rfl) rfl rfl (qt_move rfl rfl) ?_
                    refine g_v (.free rfl) rfl rfl (qt_move rfl rfl) ?_
                    refine g_v (.free rfl) rfl rfl (qt_neq rfl rfl rfl) ?_
                    refine g_nil ?_
                    refine gk_then (hK88 _ _ ?_)
                    refine gc_cond rfl (fun hc6 => ?_) (fun hc6 => ?_)
                    · try simp only [decide_eq_true_eq, decide_eq_false_iff_not, Bool.not_eq_true', Bool.not_eq_false', Bool.not_eq_eq_eq_not, Bool.not_true, Bool.not_false, ne_eq, Decidable.not_not, Classical.not_not] at hc6
                      first | (exfalso; omega) | exact absurd rfl hc6 | (simp at hc6)
                    · try simp only [decide_eq_true_eq, decide_eq_false_iff_not, Bool.not_eq_true', Bool.not_eq_false', Bool.not_eq_eq_eq_not, Bool.not_true, Bool.not_false, ne_eq, Decidable.not_not, Classical.not_not] at hc6
                      refine gc_skip ?_
                      refine gk_then (hK87 _ _ ?_)
                      refine gc_seq fun K89 hK89 => ?_
                      refine gc_region ?_
                      refine g_v (.free rfl) rfl rfl (qt_assign rfl rfl) ?_
                      refine g_nil ?_
                      refine gk_then (hK89 _ _ ?_)
                      refine gc_ret ?_
                      refine ret_1 rfl rfl  (fun w M => ?_)
                      exact ⟨rfl, M.1⟩
                simp only [updL, List.foldl_cons, List.foldl_nil, List.set_cons_succ, List.set_cons_zero, List.cons_append, List.nil_append] at HJ80
                refine ga_start _ (fun w M => M) ?_
                refine ga_v 0 rfl (by kernel_rfl) (by kernel_rfl) (by kernel_rfl) (.free rfl) rfl rfl (qt_loadS (n := 0) rfl rfl Try.underlying25 rfl (by kernel_rfl) rfl) (fun _ _ _ h => h) ?_
                refine ga_v 2 rfl (by kernel_rfl) (by kernel_rfl) (by kernel_rfl) (.free rfl) rfl rfl (qt_loadS (n := 1) rfl rfl Try.underlying25 rfl (by kernel_rfl) rfl) (fun _ _ _ h => h) ?_
                refine ga_v 4 rfl (by kernel_rfl) (by kernel_rfl) (by kernel_rfl) (.free rfl) rfl rfl (qt_loadS (n := 2) rfl rfl Try.underlying27 rfl (by kernel_rfl) rfl) (fun _ _ _ h => h) ?_
                refine ga_v 6 rfl (by kernel_rfl) (by kernel_rfl) (by kernel_rfl) (.free rfl) rfl rfl (qt_move rfl rfl) (fun _ _ _ h => h) ?_
                refine ga_two 1 11 (by kernel_rfl) rfl rfl (.free rfl) (.free rfl) (fun K90 hK90 => ?_) (fun K90 hK90 => ?_)
                · refine go_callC1 rfl rfl rfl Try.func16 rfl (by decide) rfl (fun w M => toC_any w _ _ (mem_rdC M R0)) ?_
                  intro ca91 cb91 cc91 cd91 ce91 cf91 cg91 ch91
                  refine hK90 _ _ (fun w M => (mem_take 16 M :)) ?_
                  refine ga_two 3 11 (by kernel_rfl) rfl rfl (.free rfl) (.free rfl) (fun K93 hK93 => ?_) (fun K93 hK93 => ?_)
                  · refine go_callC1 rfl rfl rfl Try.func16 rfl (by decide) rfl (fun w M => toC_any w _ _ (mem_rdC M R1)) ?_
                    intro ca94 cb94 cc94 cd94 ce94 cf94 cg94 ch94
                    refine hK93 _ _ (fun w M => (mem_take 16 M :)) ?_
                    refine ga_two 5 11 (by kernel_rfl) rfl rfl (.free rfl) (.free rfl) (fun K96 hK96 => ?_) (fun K96 hK96 => ?_)
                    · refine go_callFn1 rfl rfl rfl Try.func17 rfl (by decide) rfl (fun w M => toF_any w _ _ (mem_rdF M R2)) ?_
                      intro fx1_97 fk1_97 fx2_97 fk2_97 fx3_97 fk3_97 fx4_97 fk4_97 fx5_97 fk5_97 fx6_97 fk6_97 fx7_97 fk7_97 fx8_97 fk8_97 fx9_97 fk9_97 fx10_97 fk10_97
                      refine hK96 _ _ (fun w M => (mem_take 16 M :)) ?_
                      refine ga_two 7 11 (by kernel_rfl) rfl rfl (.free rfl) (.free rfl) (fun K99 hK99 => ?_) (fun K99 hK99 => ?_)
                      · refine go_callFI1 rfl rfl rfl Try.func25 rfl (by decide) rfl (fun w M => himpl w _ _ _ ((mem_ownC (n := 16) M rfl).rd) ((mem_ownC (n := 17) M rfl).rd) ((mem_ownF (n := 18) M rfl).rd)) ?_
                        intro fx1_100 fk1_100 fx2_100 fk2_100 fx3_100 fk3_100 fx4_100 fk4_100 fx5_100 fk5_100 fx6_100 fk6_100 fx7_100 fk7_100 fx8_100 fk8_100 fx9_100 fk9_100 fx10_100 fk10_100
                        refine hK99 _ _ (fun w M => (mem_take 16 M :)) ?_
                        refine ga_v 8 rfl (by kernel_rfl) (by kernel_rfl) (by kernel_rfl) (.free rfl) rfl rfl (qt_move rfl rfl) (fun _ _ _ h => h) ?_
                        refine ga_v 9 rfl (by kernel_rfl) (by kernel_rfl) (by kernel_rfl) (.free rfl) rfl rfl (qt_extract rfl rfl rfl) (fun _ _ _ h => h) ?_
                        refine ga_v 10 rfl (by kernel_rfl) (by kernel_rfl) (by kernel_rfl) (.free rfl) rfl rfl (qt_extract rfl rfl rfl) (fun _ _ _ h => h) ?_
                        refine ga_op 11 (by kernel_rfl) rfl (.free rfl) fun K103 hK103 => ?_
                        refine go_alloc (z := (.agg #[.int .i64 0, .slice none 0 0, .slice none 0 0, .slice none 0 0, .slice none 0 0, .int .i64 0, .slice none 0 0, .slice none 0 0, .slice none 0 0, .slice none 0 0, .slice none 0 0, .slice none 0 0])) (cs := [.int .i64 0, .slice none 0 0, .slice none 0 0, .slice none 0 0, .slice none 0 0, .int .i64 0, .slice none 0 0, .slice none 0 0, .slice none 0 0, .slice none 0 0, .slice none 0 0, .slice none 0 0]) rfl rfl rfl (fun w => by kernel_rfl) rfl ?_
                        intro B102
                        refine hK103 _ _ (fun w M => (mem_take 16 M :)) ?_
                        refine ga_op 12 (by kernel_rfl) rfl (.free rfl) fun K104 hK104 => ?_
                        refine go_storeS (n := 20) rfl rfl rfl rfl (by kernel_rfl) rfl rfl rfl ?_
                        refine hK104 _ _ (fun w M => (mem_take 16 M :)) ?_
                        refine ga_v 13 rfl (by kernel_rfl) (by kernel_rfl) (by kernel_rfl) (.free rfl) rfl rfl (qt_assign rfl rfl) (fun _ _ _ h => h) ?_
                        refine ga_done (by kernel_rfl) ?_
                        try simp only [List.nil_append, List.cons_append, List.append_assoc, List.set_cons_succ, List.set_cons_zero]
                        refine gk_pickL [0, 0, 0, 0, 0, 0, 0, 0, 0, 0, 0, 0, 0, 0, 0, 0, 3, 3] ?_
                        refine gk_sub ?hs_105 (HJ80 (_, _, _, _, _, _, _, _, _, _, _, _, _, _, _, _, _, _, _, _, _))
                        case hs_105 => exact (sub_cons rfl (sub_cons rfl (sub_cons rfl (sub_cons rfl (sub_cons rfl (sub_cons rfl (sub_cons rfl (sub_cons rfl (sub_cons rfl (sub_cons rfl (sub_cons rfl (sub_cons rfl (sub_cons rfl (sub_cons rfl (sub_cons rfl (sub_cons rfl (sub_cons rfl (sub_cons rfl (sub_cons rfl (sub_cons rfl (sub_cons rfl (sub_cons rfl (sub_cons rfl (sub_cons rfl (sub_cons rfl (sub_cons rfl (sub_cons rfl (sub_cons rfl (sub_cons rfl (sub_cons rfl (sub_cons rfl sub_nil)))))))))))))))))))))))))))))))
                      · refine go_alloc (z := (.agg #[.int .i64 0, .slice none 0 0, .slice none 0 0, .slice none 0 0, .slice none 0 0, .int .i64 0, .slice none 0 0, .slice none 0 0, .slice none 0 0, .slice none 0 0, .slice none 0 0, .slice none 0 0])) (cs := [.int .i64 0, .slice none 0 0, .slice none 0 0, .slice none 0 0, .slice none 0 0, .int .i64 0, .slice none 0 0, .slice none 0 0, .slice none 0 0, .slice none 0 0, .slice none 0 0, .slice none 0 0]) rfl rfl rfl (fun w => by kernel_rfl) rfl ?_
                        intro B106
                        refine hK99 _ _ (fun w M => (mem_take 16 M :)) ?_
                        refine ga_op 7 (by kernel_rfl) rfl (.free rfl) fun K109 hK109 => ?_
                        refine go_callFI1 rfl rfl rfl Try.func25 rfl (by decide) rfl (fun w M => himpl w _ _ _ ((mem_ownC (n := 16) M rfl).rd) ((mem_ownC (n := 17) M rfl).rd) ((mem_ownF (n := 18) M rfl).rd)) ?_
                        intro fx1_108 fk1_108 fx2_108 fk2_108 fx3_108 fk3_108 fx4_108 fk4_108 fx5_108 fk5_108 fx6_108 fk6_108 fx7_108 fk7_108 fx8_108 fk8_108 fx9_108 fk9_108 fx10_108 fk10_108
                        refine hK109 _ _ (fun w M => (mem_take 16 M :)) ?_
                        refine ga_v 8 rfl (by kernel_rfl) (by kernel_rfl) (by kernel_rfl) (.free rfl) rfl rfl (qt_move rfl rfl) (fun _ _ _ h => h) ?_
                        refine ga_v 9 rfl (by kernel_rfl) (by kernel_rfl) (by kernel_rfl) (.free rfl) rfl rfl (qt_extract rfl rfl rfl) (fun _ _ _ h => h) ?_
                        refine ga_v 10 rfl (by kernel_rfl) (by kernel_rfl) (by kernel_rfl) (.free rfl) rfl rfl (qt_extract rfl rfl rfl) (fun _ _ _ h => h) ?_
                        refine ga_op 12 (by kernel_rfl) rfl (.free rfl) fun K110 hK110 => ?_
                        refine go_storeS (n := 19) rfl rfl rfl rfl (by kernel_rfl) rfl rfl rfl ?_
                        refine hK110 _ _ (fun w M => (mem_take 16 M :)) ?_
                        refine ga_v 13 rfl (by kernel_rfl) (by kernel_rfl) (by kernel_rfl) (.free rfl) rfl rfl (qt_assign rfl rfl) (fun _ _ _ h => h) ?_
                        refine ga_done (by kernel_rfl) ?_
                        try simp only [List.nil_append, List.cons_append, List.append_assoc, List.set_cons_succ, List.set_cons_zero]
                        refine gk_pickL [0, 0, 0, 0, 0, 0, 0, 0, 0, 0, 0, 0, 0, 0, 0, 0, 4, 3] ?_
                        refine gk_sub ?hs_111 (HJ80 (_, _, _, _, _, _, _, _, _, _, _, _, _, _, _, _, _, _, _, _, _))
                        case hs_111 => exact (sub_cons rfl (sub_cons rfl (sub_cons rfl (sub_cons rfl (sub_cons rfl (sub_cons rfl (sub_cons rfl (sub_cons rfl (sub_cons rfl (sub_cons rfl (sub_cons rfl (sub_cons rfl (sub_cons rfl (sub_cons rfl (sub_cons rfl (sub_cons rfl (sub_cons rfl (sub_cons rfl (sub_cons rfl (sub_cons rfl (sub_cons rfl (sub_cons rfl (sub_cons rfl (sub_cons rfl (sub_cons rfl (sub_cons rfl (sub_cons rfl (sub_cons rfl (sub_cons rfl (sub_cons rfl (sub_cons rfl sub_nil)))))))))))))))))))))))))))))))
                    · refine go_alloc (z := (.agg #[.int .i64 0, .slice none 0 0, .slice none 0 0, .slice none 0 0, .slice none 0 0, .int .i64 0, .slice none 0 0, .slice none 0 0, .slice none 0 0, .slice none 0 0, .slice none 0 0, .slice none 0 0])) (cs := [.int .i64 0, .slice none 0 0, .slice none 0 0, .slice none 0 0, .slice none 0 0, .int .i64 0, .slice none 0 0, .slice none 0 0, .slice none 0 0, .slice none 0 0, .slice none 0 0, .slice none 0 0]) rfl rfl rfl (fun w => by kernel_rfl) rfl ?_
                      intro B112
                      refine hK96 _ _ (fun w M => (mem_take 16 M :)) ?_
                      refine ga_op 5 (by kernel_rfl) rfl (.free rfl) fun K115 hK115 => ?_
                      refine go_callFn1 rfl rfl rfl Try.func17 rfl (by decide) rfl (fun w M => toF_any w _ _ (mem_rdF M R2)) ?_
                      intro fx1_114 fk1_114 fx2_114 fk2_114 fx3_114 fk3_114 fx4_114 fk4_114 fx5_114 fk5_114 fx6_114 fk6_114 fx7_114 fk7_114 fx8_114 fk8_114 fx9_114 fk9_114 fx10_114 fk10_114
                      refine hK115 _ _ (fun w M => (mem_take 16 M :)) ?_
                      refine ga_op 7 (by kernel_rfl) rfl (.free rfl) fun K117 hK117 => ?_
                      refine go_callFI1 rfl rfl rfl Try.func25 rfl (by decide) rfl (fun w M => himpl w _ _ _ ((mem_ownC (n := 16) M rfl).rd) ((mem_ownC (n := 17) M rfl).rd) ((mem_ownF (n := 19) M rfl).rd)) ?_
                      intro fx1_116 fk1_116 fx2_116 fk2_116 fx3_116 fk3_116 fx4_116 fk4_116 fx5_116 fk5_116 fx6_116 fk6_116 fx7_116 fk7_116 fx8_116 fk8_116 fx9_116 fk9_116 fx10_116 fk10_116
                      refine hK117 _ _ (fun w M => (mem_take 16 M :)) ?_
                      refine ga_v 8 rfl (by kernel_rfl) (by kernel_rfl) (by kernel_rfl) (.free rfl) rfl rfl (qt_move rfl rfl) (fun _ _ _ h => h) ?_
                      refine ga_v 9 rfl (by kernel_rfl) (by kernel_rfl) (by kernel_rfl) (.free rfl) rfl rfl (qt_extract rfl rfl rfl) (fun _ _ _ h => h) ?_
                      refine ga_v 10 rfl (by kernel_rfl) (by kernel_rfl) (by kernel_rfl) (.free rfl) rfl rfl (qt_extract rfl rfl rfl) (fun _ _ _ h => h) ?_
                      refine ga_op 12 (by kernel_rfl) rfl (.free rfl) fun K118 hK118 => ?_
                      refine go_storeS (n := 18) rfl rfl rfl rfl (by kernel_rfl) rfl rfl rfl ?_
                      refine hK118 _ _ (fun w M => (mem_take 16 M :)) ?_
                      refine ga_v 13 rfl (by kernel_rfl) (by kernel_rfl) (by kernel_rfl) (.free rfl) rfl rfl (qt_assign rfl rfl) (fun _ _ _ h => h) ?_
                      refine ga_done (by kernel_rfl) ?_
                      try simp only [List.nil_append, List.cons_append, List.append_assoc, List.set_cons_succ, List.set_cons_zero]
                      refine gk_pickL [0, 0, 0, 0, 0, 0, 0, 0, 0, 0, 0, 0, 0, 0, 0, 0, 4, 2] ?_
                      refine gk_sub ?hs_119 (HJ80 (_, _, _, _, _, _, _, _, _, _, _, _, _, _, _, _, _, _, _, _, _))
                      case hs_119 => exact (sub_cons rfl (sub_cons rfl (sub_cons rfl (sub_cons rfl (sub_cons rfl (sub_cons rfl (sub_cons rfl (sub_cons rfl (sub_cons rfl (sub_cons rfl (sub_cons rfl (sub_cons rfl (sub_cons rfl (sub_cons rfl (sub_cons rfl (sub_cons rfl (sub_cons rfl (sub_cons rfl (sub_cons rfl (sub_cons rfl (sub_cons rfl (sub_cons rfl (sub_cons rfl (sub_cons rfl (sub_cons rfl (sub_cons rfl (sub_cons rfl (sub_cons rfl (sub_cons rfl (sub_cons rfl (sub_cons rfl sub_nil)))))))))))))))))))))))))))))))
                  · refine go_alloc (z := (.agg #[.int .i64 0, .slice none 0 0, .slice none 0 0, .slice none 0 0, .slice none 0 0, .int .i64 0, .slice none 0 0, .slice none 0 0, .slice none 0 0, .slice none 0 0, .slice none 0 0, .slice none 0 0])) (cs := [.int .i64 0, .slice none 0 0, .slice none 0 0, .slice none 0 0, .slice none 0 0, .int .i64 0, .slice none 0 0, .slice none 0 0, .slice none 0 0, .slice none 0 0, .slice none 0 0, .slice none 0 0]) rfl rfl rfl (fun w => by kernel_rfl) rfl ?_
                    intro B120
                    refine hK93 _ _ (fun w M => (mem_take 16 M :)) ?_
                    refine ga_op 3 (by kernel_rfl) rfl (.free rfl) fun K123 hK123 => ?_
                    refine go_callC1 rfl rfl rfl Try.func16 rfl (by decide) rfl (fun w M => toC_any w _ _ (mem_rdC M R1)) ?_
                    intro ca122 cb122 cc122 cd122 ce122 cf122 cg122 ch122
                    refine hK123 _ _ (fun w M => (mem_take 16 M :)) ?_
                    refine ga_op 5 (by kernel_rfl) rfl (.free rfl) fun K125 hK125 => ?_
                    refine go_callFn1 rfl rfl rfl Try.func17 rfl (by decide) rfl (fun w M => toF_any w _ _ (mem_rdF M R2)) ?_
                    intro fx1_124 fk1_124 fx2_124 fk2_124 fx3_124 fk3_124 fx4_124 fk4_124 fx5_124 fk5_124 fx6_124 fk6_124 fx7_124 fk7_124 fx8_124 fk8_124 fx9_124 fk9_124 fx10_124 fk10_124
                    refine hK125 _ _ (fun w M => (mem_take 16 M :)) ?_
                    refine ga_op 7 (by kernel_rfl) rfl (.free rfl) fun K127 hK127 => ?_
                    refine go_callFI1 rfl rfl rfl Try.func25 rfl (by decide) rfl (fun w M => himpl w _ _ _ ((mem_ownC (n := 16) M rfl).rd) ((mem_ownC (n := 18) M rfl).rd) ((mem_ownF (n := 19) M rfl).rd)) ?_
                    intro fx1_126 fk1_126 fx2_126 fk2_126 fx3_126 fk3_126 fx4_126 fk4_126 fx5_126 fk5_126 fx6_126 fk6_126 fx7_126 fk7_126 fx8_126 fk8_126 fx9_126 fk9_126 fx10_126 fk10_126
                    refine hK127 _ _ (fun w M => (mem_take 16 M :)) ?_
                    refine ga_v 8 rfl (by kernel_rfl) (by kernel_rfl) (by kernel_rfl) (.free rfl) rfl rfl (qt_move rfl rfl) (fun _ _ _ h => h) ?_
                    refine ga_v 9 rfl (by kernel_rfl) (by kernel_rfl) (by kernel_rfl) (.free rfl) rfl rfl (qt_extract rfl rfl rfl) (fun _ _ _ h => h) ?_
                    refine ga_v 10 rfl (by kernel_rfl) (by kernel_rfl) (by kernel_rfl) (.free rfl) rfl rfl (qt_extract rfl rfl rfl) (fun _ _ _ h => h) ?_
                    refine ga_op 12 (by kernel_rfl) rfl (.free rfl) fun K128 hK128 => ?_
                    refine go_storeS (n := 17) rfl rfl rfl rfl (by kernel_rfl) rfl rfl rfl ?_
                    refine hK128 _ _ (fun w M => (mem_take 16 M :)) ?_
                    refine ga_v 13 rfl (by kernel_rfl) (by kernel_rfl) (by kernel_rfl) (.free rfl) rfl rfl (qt_assign rfl rfl) (fun _ _ _ h => h) ?_
                    refine ga_done (by kernel_rfl) ?_
                    try simp only [List.nil_append, List.cons_append, List.append_assoc, List.set_cons_succ, List.set_cons_zero]
                    refine gk_pickL [0, 0, 0, 0, 0, 0, 0, 0, 0, 0, 0, 0, 0, 0, 0, 0, 4, 1] ?_
                    refine gk_sub ?hs_129 (HJ80 (_, _, _, _, _, _, _, _, _, _, _, _, _, _, _, _, _, _, _, _, _))
                    case hs_129 => exact (sub_cons rfl (sub_cons rfl (sub_cons rfl (sub_cons rfl (sub_cons rfl (sub_cons rfl (sub_cons rfl (sub_cons rfl (sub_cons rfl (sub_cons rfl (sub_cons rfl (sub_cons rfl (sub_cons rfl (sub_cons rfl (sub_cons rfl (sub_cons rfl (sub_cons rfl (sub_cons rfl (sub_cons rfl (sub_cons rfl (sub_cons rfl (sub_cons rfl (sub_cons rfl (sub_cons rfl (sub_cons rfl (sub_cons rfl (sub_cons rfl (sub_cons rfl (sub_cons rfl (sub_cons rfl (sub_cons rfl sub_nil)))))))))))))))))))))))))))))))
                · refine go_alloc (z := (.agg #[.int .i64 0, .slice none 0 0, .slice none 0 0, .slice none 0 0, .slice none 0 0, .int .i64 0, .slice none 0 0, .slice none 0 0, .slice none 0 0, .slice none 0 0, .slice none 0 0, .slice none 0 0])) (cs := [.int .i64 0, .slice none 0 0, .slice none 0 0, .slice none 0 0, .slice none 0 0, .int .i64 0, .slice none 0 0, .slice none 0 0, .slice none 0 0, .slice none 0 0, .slice none 0 0, .slice none 0 0]) rfl rfl rfl (fun w => by kernel_rfl) rfl ?_
                  intro B130
                  refine hK90 _ _ (fun w M => (mem_take 16 M :)) ?_
                  refine ga_op 1 (by kernel_rfl) rfl (.free rfl) fun K133 hK133 => ?_
                  refine go_callC1 rfl rfl rfl Try.func16 rfl (by decide) rfl (fun w M => toC_any w _ _ (mem_rdC M R0)) ?_
                  intro ca132 cb132 cc132 cd132 ce132 cf132 cg132 ch132
                  refine hK133 _ _ (fun w M => (mem_take 16 M :)) ?_
                  refine ga_op 3 (by kernel_rfl) rfl (.free rfl) fun K135 hK135 => ?_
                  refine go_callC1 rfl rfl rfl Try.func16 rfl (by decide) rfl (fun w M => toC_any w _ _ (mem_rdC M R1)) ?_
                  intro ca134 cb134 cc134 cd134 ce134 cf134 cg134 ch134
                  refine hK135 _ _ (fun w M => (mem_take 16 M :)) ?_
                  refine ga_op 5 (by kernel_rfl) rfl (.free rfl) fun K137 hK137 => ?_
                  refine go_callFn1 rfl rfl rfl Try.func17 rfl (by decide) rfl (fun w M => toF_any w _ _ (mem_rdF M R2)) ?_
                  intro fx1_136 fk1_136 fx2_136 fk2_136 fx3_136 fk3_136 fx4_136 fk4_136 fx5_136 fk5_136 fx6_136 fk6_136 fx7_136 fk7_136 fx8_136 fk8_136 fx9_136 fk9_136 fx10_136 fk10_136
                  refine hK137 _ _ (fun w M => (mem_take 16 M :)) ?_
                  refine ga_op 7 (by kernel_rfl) rfl (.free rfl) fun K139 hK139 => ?_
                  refine go_callFI1 rfl rfl rfl Try.func25 rfl (by decide) rfl (fun w M => himpl w _ _ _ ((mem_ownC (n := 17) M rfl).rd) ((mem_ownC (n := 18) M rfl).rd) ((mem_ownF (n := 19) M rfl).rd)) ?_
                  intro fx1_138 fk1_138 fx2_138 fk2_138 fx3_138 fk3_138 fx4_138 fk4_138 fx5_138 fk5_138 fx6_138 fk6_138 fx7_138 fk7_138 fx8_138 fk8_138 fx9_138 fk9_138 fx10_138 fk10_138
                  refine hK139 _ _ (fun w M => (mem_take 16 M :)) ?_
                  refine ga_v 8 rfl (by kernel_rfl) (by kernel_rfl) (by kernel_rfl) (.free rfl) rfl rfl (qt_move rfl rfl) (fun _ _ _ h => h) ?_
                  refine ga_v 9 rfl (by kernel_rfl) (by kernel_rfl) (by kernel_rfl) (.free rfl) rfl rfl (qt_extract rfl rfl rfl) (fun _ _ _ h => h) ?_
                  refine ga_v 10 rfl (by kernel_rfl) (by kernel_rfl) (by kernel_rfl) (.free rfl) rfl rfl (qt_extract rfl rfl rfl) (fun _ _ _ h => h) ?_
                  refine ga_op 12 (by kernel_rfl) rfl (.free rfl) fun K140 hK140 => ?_
                  refine go_storeS (n := 16) rfl rfl rfl rfl (by kernel_rfl) rfl rfl rfl ?_
                  refine hK140 _ _ (fun w M => (mem_take 16 M :)) ?_
                  refine ga_v 13 rfl (by kernel_rfl) (by kernel_rfl) (by kernel_rfl) (.free rfl) rfl rfl (qt_assign rfl rfl) (fun _ _ _ h => h) ?_
                  refine ga_done (by kernel_rfl) ?_
                  try simp only [List.nil_append, List.cons_append, List.append_assoc, List.set_cons_succ, List.set_cons_zero]
                  refine gk_pickL [0, 0, 0, 0, 0, 0, 0, 0, 0, 0, 0, 0, 0, 0, 0, 0, 4, 0] ?_
                  refine gk_sub ?hs_141 (HJ80 (_, _, _, _, _, _, _, _, _, _, _, _, _, _, _, _, _, _, _, _, _))
                  case hs_141 => exact (sub_cons rfl (sub_cons rfl (sub_cons rfl (sub_cons rfl (sub_cons rfl (sub_cons rfl (sub_cons rfl (sub_cons rfl (sub_cons rfl (sub_cons rfl (sub_cons rfl (sub_cons rfl (sub_cons rfl (sub_cons rfl (sub_cons rfl (sub_cons rfl (sub_cons rfl (sub_cons rfl (sub_cons rfl (sub_cons rfl (sub_cons rfl (sub_cons rfl (sub_cons rfl (sub_cons rfl (sub_cons rfl (sub_cons rfl (sub_cons rfl (sub_cons rfl (sub_cons rfl (sub_cons rfl (sub_cons rfl sub_nil)))))))))))))))))))))))))))))))
        simp only [updL, List.foldl_cons, List.foldl_nil, List.set_cons_succ, List.set_cons_zero, List.cons_append, List.nil_append] at HJ19
        refine ga_start _ (fun w M => M) ?_
        refine ga_v 0 rfl (by kernel_rfl) (by kernel_rfl) (by kernel_rfl) (.free rfl) rfl rfl (qt_loadS (n := 0) rfl rfl Try.underlying25 rfl (by kernel_rfl) rfl) (fun _ _ _ h => h) ?_
        refine ga_v 2 rfl (by kernel_rfl) (by kernel_rfl) (by kernel_rfl) (.free rfl) rfl rfl (qt_loadS (n := 1) rfl rfl Try.underlying25 rfl (by kernel_rfl) rfl) (fun _ _ _ h => h) ?_
        refine ga_v 4 rfl (by kernel_rfl) (by kernel_rfl) (by kernel_rfl) (.free rfl) rfl rfl (qt_loadS (n := 2) rfl rfl Try.underlying27 rfl (by kernel_rfl) rfl) (fun _ _ _ h => h) ?_
        refine ga_v 6 rfl (by kernel_rfl) (by kernel_rfl) (by kernel_rfl) (.free rfl) rfl rfl (qt_move rfl rfl) (fun _ _ _ h => h) ?_
        refine ga_two 1 11 (by kernel_rfl) rfl rfl (.free rfl) (.free rfl) (fun K142 hK142 => ?_) (fun K142 hK142 => ?_)
        · refine go_callC1 rfl rfl rfl Try.func16 rfl (by decide) rfl (fun w M => toC_any w _ _ (mem_rdC M R0)) ?_
          intro ca143 cb143 cc143 cd143 ce143 cf143 cg143 ch143
          refine hK142 _ _ (fun w M => (mem_take 3 M :)) ?_
          refine ga_two 3 11 (by kernel_rfl) rfl rfl (.free rfl) (.free rfl) (fun K145 hK145 => ?_) (fun K145 hK145 => ?_)
          · refine go_callC1 rfl rfl rfl Try.func16 rfl (by decide) rfl (fun w M => toC_any w _ _ (mem_rdC M R1)) ?_
            intro ca146 cb146 cc146 cd146 ce146 cf146 cg146 ch146
            refine hK145 _ _ (fun w M => (mem_take 3 M :)) ?_
            refine ga_two 5 11 (by kernel_rfl) rfl rfl (.free rfl) (.free rfl) (fun K148 hK148 => ?_) (fun K148 hK148 => ?_)
            · refine go_callFn1 rfl rfl rfl Try.func17 rfl (by decide) rfl (fun w M => toF_any w _ _ (mem_rdF M R2)) ?_
              intro fx1_149 fk1_149 fx2_149 fk2_149 fx3_149 fk3_149 fx4_149 fk4_149 fx5_149 fk5_149 fx6_149 fk6_149 fx7_149 fk7_149 fx8_149 fk8_149 fx9_149 fk9_149 fx10_149 fk10_149
              refine hK148 _ _ (fun w M => (mem_take 3 M :)) ?_
              refine ga_two 7 11 (by kernel_rfl) rfl rfl (.free rfl) (.free rfl) (fun K151 hK151 => ?_) (fun K151 hK151 => ?_)
              · refine go_callFI1 rfl rfl rfl Try.func24 rfl (by decide) rfl (fun w M => hspec w _ _ _ ((mem_ownC (n := 3) M rfl).rd) ((mem_ownC (n := 4) M rfl).rd) ((mem_ownF (n := 5) M rfl).rd)) ?_
                intro fx1_152 fk1_152 fx2_152 fk2_152 fx3_152 fk3_152 fx4_152 fk4_152 fx5_152 fk5_152 fx6_152 fk6_152 fx7_152 fk7_152 fx8_152 fk8_152 fx9_152 fk9_152 fx10_152 fk10_152
                refine hK151 _ _ (fun w M => (mem_take 3 M :)) ?_
                refine ga_v 8 rfl (by kernel_rfl) (by kernel_rfl) (by kernel_rfl) (.free rfl) rfl rfl (qt_move rfl rfl) (fun _ _ _ h => h) ?_
                refine ga_v 9 rfl (by kernel_rfl) (by kernel_rfl) (by kernel_rfl) (.free rfl) rfl rfl (qt_extract rfl rfl rfl) (fun _ _ _ h => h) ?_
                refine ga_v 10 rfl (by kernel_rfl) (by kernel_rfl) (by kernel_rfl) (.free rfl) rfl rfl (qt_extract rfl rfl rfl) (fun _ _ _ h => h) ?_
                refine ga_op 11 (by kernel_rfl) rfl (.free rfl) fun K155 hK155 => ?_
                refine go_alloc (z := (.agg #[.int .i64 0, .slice none 0 0, .slice none 0 0, .slice none 0 0, .slice none 0 0, .int .i64 0, .slice none 0 0, .slice none 0 0, .slice none 0 0, .slice none 0 0, .slice none 0 0, .slice none 0 0])) (cs := [.int .i64 0, .slice none 0 0, .slice none 0 0, .slice none 0 0, .slice none 0 0, .int .i64 0, .slice none 0 0, .slice none 0 0, .slice none 0 0, .slice none 0 0, .slice none 0 0, .slice none 0 0]) rfl rfl rfl (fun w => by kernel_rfl) rfl ?_
                intro B154
                refine hK155 _ _ (fun w M => (mem_take 3 M :)) ?_
                refine ga_op 12 (by kernel_rfl) rfl (.free rfl) fun K156 hK156 => ?_
                refine go_storeS (n := 7) rfl rfl rfl rfl (by kernel_rfl) rfl rfl rfl ?_
                refine hK156 _ _ (fun w M => (mem_take 3 M :)) ?_
                refine ga_v 13 rfl (by kernel_rfl) (by kernel_rfl) (by kernel_rfl) (.free rfl) rfl rfl (qt_assign rfl rfl) (fun _ _ _ h => h) ?_
                refine ga_done (by kernel_rfl) ?_
                try simp only [List.nil_append, List.cons_append, List.append_assoc, List.set_cons_succ, List.set_cons_zero]
                refine gk_pickL [0, 0, 0, 3, 3] ?_
                refine gk_sub ?hs_157 (HJ19 (_, _, _, _, _, _, _, _, _, _, _, _, _, _, _, _, _, _, _, _, _))
                case hs_157 => exact (sub_cons rfl (sub_cons rfl (sub_cons rfl (sub_cons rfl (sub_cons rfl (sub_cons rfl (sub_cons rfl (sub_cons rfl (sub_cons rfl (sub_cons rfl (sub_cons rfl (sub_cons rfl (sub_cons rfl (sub_cons rfl sub_nil))))))))))))))
              · refine go_alloc (z := (.agg #[.int .i64 0, .slice none 0 0, .slice none 0 0, .slice none 0 0, .slice none 0 0, .int .i64 0, .slice none 0 0, .slice none 0 0, .slice none 0 0, .slice none 0 0, .slice none 0 0, .slice none 0 0])) (cs := [.int .i64 0, .slice none 0 0, .slice none 0 0, .slice none 0 0, .slice none 0 0, .int .i64 0, .slice none 0 0, .slice none 0 0, .slice none 0 0, .slice none 0 0, .slice none 0 0, .slice none 0 0]) rfl rfl rfl (fun w => by kernel_rfl) rfl ?_
                intro B158
                refine hK151 _ _ (fun w M => (mem_take 3 M :)) ?_
                refine ga_op 7 (by kernel_rfl) rfl (.free rfl) fun K161 hK161 => ?_
                refine go_callFI1 rfl rfl rfl Try.func24 rfl (by decide) rfl (fun w M => hspec w _ _ _ ((mem_ownC (n := 3) M rfl).rd) ((mem_ownC (n := 4) M rfl).rd) ((mem_ownF (n := 5) M rfl).rd)) ?_
                intro fx1_160 fk1_160 fx2_160 fk2_160 fx3_160 fk3_160 fx4_160 fk4_160 fx5_160 fk5_160 fx6_160 fk6_160 fx7_160 fk7_160 fx8_160 fk8_160 fx9_160 fk9_160 fx10_160 fk10_160
                refine hK161 _ _ (fun w M => (mem_take 3 M :)) ?_
                refine ga_v 8 rfl (by kernel_rfl) (by kernel_rfl) (by kernel_rfl) (.free rfl) rfl rfl (qt_move rfl rfl) (fun _ _ _ h => h) ?_
                refine ga_v 9 rfl (by kernel_rfl) (by kernel_rfl) (by kernel_rfl) (.free rfl) rfl rfl (qt_extract rfl rfl rfl) (fun _ _ _ h => h) ?_
                refine ga_v 10 rfl (by kernel_rfl) (by kernel_rfl) (by kernel_rfl) (.free rfl) rfl rfl (qt_extract rfl rfl rfl) (fun _ _ _ h => h) ?_
                refine ga_op 12 (by kernel_rfl) rfl (.free rfl) fun K162 hK162 => ?_
                refine go_storeS (n := 6) rfl rfl rfl rfl (by kernel_rfl) rfl rfl rfl ?_
                refine hK162 _ _ (fun w M => (mem_take 3 M :)) ?_
                refine ga_v 13 rfl (by kernel_rfl) (by kernel_rfl) (by kernel_rfl) (.free rfl) rfl rfl (qt_assign rfl rfl) (fun _ _ _ h => h) ?_
                refine ga_done (by kernel_rfl) ?_
                try simp only [List.nil_append, List.cons_append, List.append_assoc, List.set_cons_succ, List.set_cons_zero]
                refine gk_pickL [0, 0, 0, 4, 3] ?_
                refine gk_sub ?hs_163 (HJ19 (_, _, _, _, _, _, _, _, _, _, _, _, _, _, _, _, _, _, _, _, _))
                case hs_163 => exact (sub_cons rfl (sub_cons rfl (sub_cons rfl (sub_cons rfl (sub_cons rfl (sub_cons rfl (sub_cons rfl (sub_cons rfl (sub_cons rfl (sub_cons rfl (sub_cons rfl (sub_cons rfl (sub_cons rfl (sub_cons rfl sub_nil))))))))))))))
            · refine go_alloc (z := (.agg #[.int .i64 0, .slice none 0 0, .slice none 0 0, .slice none 0 0, .slice none 0 0, .int .i64 0, .slice none 0 0, .slice none 0 0, .slice none 0 0, .slice none 0 0, .slice none 0 0, .slice none 0 0])) (cs := [.int .i64 0, .slice none 0 0, .slice none 0 0, .slice none 0 0, .slice none 0 0, .int .i64 0, .slice none 0 0, .slice none 0 0, .slice none 0 0, .slice none 0 0, .slice none 0 0, .slice none 0 0]) rfl rfl rfl (fun w => by kernel_rfl) rfl ?_
              intro B164
              refine hK148 _ _ (fun w M => (mem_take 3 M :)) ?_
              refine ga_op 5 (by kernel_rfl) rfl (.free rfl) fun K167 hK167 => ?_
              refine go_callFn1 rfl rfl rfl Try.func17 rfl (by decide) rfl (fun w M => toF_any w _ _ (mem_rdF M R2)) ?_
              intro fx1_166 fk1_166 fx2_166 fk2_166 fx3_166 fk3_166 fx4_166 fk4_166 fx5_166 fk5_166 fx6_166 fk6_166 fx7_166 fk7_166 fx8_166 fk8_166 fx9_166 fk9_166 fx10_166 fk10_166
              refine hK167 _ _ (fun w M => (mem_take 3 M :)) ?_
              refine ga_op 7 (by kernel_rfl) rfl (.free rfl) fun K169 hK169 => ?_
              refine go_callFI1 rfl rfl rfl Try.func24 rfl (by decide) rfl (fun w M => hspec w _ _ _ ((mem_ownC (n := 3) M rfl).rd) ((mem_ownC (n := 4) M rfl).rd) ((mem_ownF (n := 6) M rfl).rd)) ?_
              intro fx1_168 fk1_168 fx2_168 fk2_168 fx3_168 fk3_168 fx4_168 fk4_168 fx5_168 fk5_168 fx6_168 fk6_168 fx7_168 fk7_168 fx8_168 fk8_168 fx9_168 fk9_168 fx10_168 fk10_168
              refine hK169 _ _ (fun w M => (mem_take 3 M :)) ?_
              refine ga_v 8 rfl (by kernel_rfl) (by kernel_rfl) (by kernel_rfl) (.free rfl) rfl rfl (qt_move rfl rfl) (fun _ _ _ h => h) ?_
              refine ga_v 9 rfl (by kernel_rfl) (by kernel_rfl) (by kernel_rfl) (.free rfl) rfl rfl (qt_extract rfl rfl rfl) (fun _ _ _ h => h) ?_
              refine ga_v 10 rfl (by kernel_rfl) (by kernel_rfl) (by kernel_rfl) (.free rfl) rfl rfl (qt_extract rfl rfl rfl) (fun _ _ _ h => h) ?_
              refine ga_op 12 (by kernel_rfl) rfl (.free rfl) fun K170 hK170 => ?_
              refine go_storeS (n := 5) rfl rfl rfl rfl (by kernel_rfl) rfl rfl rfl ?_
              refine hK170 _ _ (fun w M => (mem_take 3 M :)) ?_
              refine ga_v 13 rfl (by kernel_rfl) (by kernel_rfl) (by kernel_rfl) (.free rfl) rfl rfl (qt_assign rfl rfl) (fun _ _ _ h => h) ?_
              refine ga_done (by kernel_rfl) ?_
              try simp only [List.nil_append, List.cons_append, List.append_assoc, List.set_cons_succ, List.set_cons_zero]
              refine gk_pickL [0, 0, 0, 4, 2] ?_
              refine gk_sub ?hs_171 (HJ19 (_, _, _, _, _, _, _, _, _, _, _, _, _, _, _, _, _, _, _, _, _))
              case hs_171 => exact (sub_cons rfl (sub_cons rfl (sub_cons rfl (sub_cons rfl (sub_cons rfl (sub_cons rfl (sub_cons rfl (sub_cons rfl (sub_cons rfl (sub_cons rfl (sub_cons rfl (sub_cons rfl (sub_cons rfl (sub_cons rfl sub_nil))))))))))))))
          · refine go_alloc (z := (.agg #[.int .i64 0, .slice none 0 0, .slice none 0 0, .slice none 0 0, .slice none 0 0, .int .i64 0, .slice none 0 0, .slice none 0 0, .slice none 0 0, .slice none 0 0, .slice none 0 0, .slice none 0 0])) (cs := [.int .i64 0, .slice none 0 0, .slice none 0 0, .slice none 0 0, .slice none 0 0, .int .i64 0, .slice none 0 0, .slice none 0 0, .slice none 0 0, .slice none 0 0, .slice none 0 0, .slice none 0 0]) rfl rfl rfl (fun w => by kernel_rfl) rfl ?_
            intro B172
            refine hK145 _ _ (fun w M => (mem_take 3 M :)) ?_
            refine ga_op 3 (by kernel_rfl) rfl (.free rfl) fun K175 hK175 => ?_
            refine go_callC1 rfl rfl rfl Try.func16 rfl (by decide) rfl (fun w M => toC_any w _ _ (mem_rdC M R1)) ?_
            intro ca174 cb174 cc174 cd174 ce174 cf174 cg174 ch174
            refine hK175 _ _ (fun w M => (mem_take 3 M :)) ?_
            refine ga_op 5 (by kernel_rfl) rfl (.free rfl) fun K177 hK177 => ?_
            refine go_callFn1 rfl rfl rfl Try.func17 rfl (by decide) rfl (fun w M => toF_any w _ _ (mem_rdF M R2)) ?_
            intro fx1_176 fk1_176 fx2_176 fk2_176 fx3_176 fk3_176 fx4_176 fk4_176 fx5_176 fk5_176 fx6_176 fk6_176 fx7_176 fk7_176 fx8_176 fk8_176 fx9_176 fk9_176 fx10_176 fk10_176
            refine hK177 _ _ (fun w M => (mem_take 3 M :)) ?_
            refine ga_op 7 (by kernel_rfl) rfl (.free rfl) fun K179 hK179 => ?_
            refine go_callFI1 rfl rfl rfl Try.func24 rfl (by decide) rfl (fun w M => hspec w _ _ _ ((mem_ownC (n := 3) M rfl).rd) ((mem_ownC (n := 5) M rfl).rd) ((mem_ownF (n := 6) M rfl).rd)) ?_
            intro fx1_178 fk1_178 fx2_178 fk2_178 fx3_178 fk3_178 fx4_178 fk4_178 fx5_178 fk5_178 fx6_178 fk6_178 fx7_178 fk7_178 fx8_178 fk8_178 fx9_178 fk9_178 fx10_178 fk10_178
            refine hK179 _ _ (fun w M => (mem_take 3 M :)) ?_
            refine ga_v 8 rfl (by kernel_rfl) (by kernel_rfl) (by kernel_rfl) (.free rfl) rfl rfl (qt_move rfl rfl) (fun _ _ _ h => h) ?_
            refine ga_v 9 rfl (by kernel_rfl) (by kernel_rfl) (by kernel_rfl) (.free rfl) rfl rfl (qt_extract rfl rfl rfl) (fun _ _ _ h => h) ?_
            refine ga_v 10 rfl (by kernel_rfl) (by kernel_rfl) (by kernel_rfl) (.free rfl) rfl rfl (qt_extract rfl rfl rfl) (fun _ _ _ h => h) ?_
            refine ga_op 12 (by kernel_rfl) rfl (.free rfl) fun K180 hK180 => ?_
            refine go_storeS (n := 4) rfl rfl rfl rfl (by kernel_rfl) rfl rfl rfl ?_
            refine hK180 _ _ (fun w M => (mem_take 3 M :)) ?_
            refine ga_v 13 rfl (by kernel_rfl) (by kernel_rfl) (by kernel_rfl) (.free rfl) rfl rfl (qt_assign rfl rfl) (fun _ _ _ h => h) ?_
            refine ga_done (by kernel_rfl) ?_
            try simp only [List.nil_append, List.cons_append, List.append_assoc, List.set_cons_succ, List.set_cons_zero]
            refine gk_pickL [0, 0, 0, 4, 1] ?_
            refine gk_sub ?hs_181 (HJ19 (_, _, _, _, _, _, _, _, _, _, _, _, _, _, _, _, _, _, _, _, _))
            case hs_181 => exact (sub_cons rfl (sub_cons rfl (sub_cons rfl (sub_cons rfl (sub_cons rfl (sub_cons rfl (sub_cons rfl (sub_cons rfl (sub_cons rfl (sub_cons rfl (sub_cons rfl (sub_cons rfl (sub_cons rfl (sub_cons rfl sub_nil))))))))))))))
        · refine go_alloc (z := (.agg #[.int .i64 0, .slice none 0 0, .slice none 0 0, .slice none 0 0, .slice none 0 0, .int .i64 0, .slice none 0 0, .slice none 0 0, .slice none 0 0, .slice none 0 0, .slice none 0 0, .slice none 0 0])) (cs := [.int .i64 0, .slice none 0 0, .slice none 0 0, .slice none 0 0, .slice none 0 0, .int .i64 0, .slice none 0 0, .slice none 0 0, .slice none 0 0, .slice none 0 0, .slice none 0 0, .slice none 0 0]) rfl rfl rfl (fun w => by kernel_rfl) rfl ?_
          intro B182
          refine hK142 _ _ (fun w M => (mem_take 3 M :)) ?_
          refine ga_op 1 (by kernel_rfl) rfl (.free rfl) fun K185 hK185 => ?_
          refine go_callC1 rfl rfl rfl Try.func16 rfl (by decide) rfl (fun w M => toC_any w _ _ (mem_rdC M R0)) ?_
          intro ca184 cb184 cc184 cd184 ce184 cf184 cg184 ch184
          refine hK185 _ _ (fun w M => (mem_take 3 M :)) ?_
          refine ga_op 3 (by kernel_rfl) rfl (.free rfl) fun K187 hK187 => ?_
          refine go_callC1 rfl rfl rfl Try.func16 rfl (by decide) rfl (fun w M => toC_any w _ _ (mem_rdC M R1)) ?_
          intro ca186 cb186 cc186 cd186 ce186 cf186 cg186 ch186
          refine hK187 _ _ (fun w M => (mem_take 3 M :)) ?_
          refine ga_op 5 (by kernel_rfl) rfl (.free rfl) fun K189 hK189 => ?_
          refine go_callFn1 rfl rfl rfl Try.func17 rfl (by decide) rfl (fun w M => toF_any w _ _ (mem_rdF M R2)) ?_
          intro fx1_188 fk1_188 fx2_188 fk2_188 fx3_188 fk3_188 fx4_188 fk4_188 fx5_188 fk5_188 fx6_188 fk6_188 fx7_188 fk7_188 fx8_188 fk8_188 fx9_188 fk9_188 fx10_188 fk10_188
          refine hK189 _ _ (fun w M => (mem_take 3 M :)) ?_
          refine ga_op 7 (by kernel_rfl) rfl (.free rfl) fun K191 hK191 => ?_
          refine go_callFI1 rfl rfl rfl Try.func24 rfl (by decide) rfl (fun w M => hspec w _ _ _ ((mem_ownC (n := 4) M rfl).rd) ((mem_ownC (n := 5) M rfl).rd) ((mem_ownF (n := 6) M rfl).rd)) ?_
          intro fx1_190 fk1_190 fx2_190 fk2_190 fx3_190 fk3_190 fx4_190 fk4_190 fx5_190 fk5_190 fx6_190 fk6_190 fx7_190 fk7_190 fx8_190 fk8_190 fx9_190 fk9_190 fx10_190 fk10_190
          refine hK191 _ _ (fun w M => (mem_take 3 M :)) ?_
          refine ga_v 8 rfl (by kernel_rfl) (by kernel_rfl) (by kernel_rfl) (.free rfl) rfl rfl (qt_move rfl rfl) (fun _ _ _ h => h) ?_
          refine ga_v 9 rfl (by kernel_rfl) (by kernel_rfl) (by kernel_rfl) (.free rfl) rfl rfl (qt_extract rfl rfl rfl) (fun _ _ _ h => h) ?_
          refine ga_v 10 rfl (by kernel_rfl) (by kernel_rfl) (by kernel_rfl) (.free rfl) rfl rfl (qt_extract rfl rfl rfl) (fun _ _ _ h => h) ?_
          refine ga_op 12 (by kernel_rfl) rfl (.free rfl) fun K192 hK192 => ?_
          refine go_storeS (n := 3) rfl rfl rfl rfl (by kernel_rfl) rfl rfl rfl ?_
          refine hK192 _ _ (fun w M => (mem_take 3 M :)) ?_
          refine ga_v 13 rfl (by kernel_rfl) (by kernel_rfl) (by kernel_rfl) (.free rfl) rfl rfl (qt_assign rfl rfl) (fun _ _ _ h => h) ?_
          refine ga_done (by kernel_rfl) ?_
          try simp only [List.nil_append, List.cons_append, List.append_assoc, List.set_cons_succ, List.set_cons_zero]
          refine gk_pickL [0, 0, 0, 4, 0] ?_
          refine gk_sub ?hs_193 (HJ19 (_, _, _, _, _, _, _, _, _, _, _, _, _, _, _, _, _, _, _, _, _))
          case hs_193 => exact (sub_cons rfl (sub_cons rfl (sub_cons rfl (sub_cons rfl (sub_cons rfl (sub_cons rfl (sub_cons rfl (sub_cons rfl (sub_cons rfl (sub_cons rfl (sub_cons rfl (sub_cons rfl (sub_cons rfl (sub_cons rfl sub_nil))))))))))))))

set_option maxHeartbeats 1000000 in
set_option maxRecDepth 100000 in
theorem big0 (w : World) (v0 : Value) (a0 : Cat) (v1 : Value) (a1 : Cat) (v2 : Value) (a2 : Fct) (a3 : Int) (r0 : Fct) (r1 : Int) (h0 : InC w v0 a0) (h1 : InC w v1 a1) (h2 : InF w v2 a2) (nl : ¬ (szM a0 ≤ 1048576)) :
    Calls Try.prog 4 #[v0, v1, v2, .int .i64 a3] w (RetB w true) := by
  have I0 := h0
  obtain ⟨pa0, pb0, pc0, pd0, pe0, pf0, pg0, ph0, rfl⟩ := h0.form
  have mz0 := mz_le a0
  have I1 := h1
  obtain ⟨pa1, pb1, pc1, pd1, pe1, pf1, pg1, ph1, rfl⟩ := h1.form
  have mz1 := mz_le a1
  have I2 := h2
  obtain ⟨px1_2, px2_2, px3_2, px4_2, px5_2, px6_2, px7_2, px8_2, px9_2, px10_2, pk1_2, pk2_2, pk3_2, pk4_2, pk5_2, pk6_2, pk7_2, pk8_2, pk9_2, pk10_2, rfl, _⟩ := h2.form
  go_enter Try.func4, Try.ntmps4
  refine gc_enter (N := 147) rfl (look_cons (k := 0) rfl (look_cons (k := 1) rfl (look_cons (k := 2) rfl (look_cons (k := 3) rfl (look_nil _))))) ?_
  refine gc_seq fun K1 hK1 => ?_
  refine gc_region ?_
  refine g_op (.free rfl) fun K3 hK3 => ?_
  refine go_box rfl rfl rfl rfl rfl ?_
  intro B2
  refine hK3 _ _ ?_
  refine g_op (.free rfl) fun K5 hK5 => ?_
  refine go_box rfl rfl rfl rfl rfl ?_
  intro B4
  refine hK5 _ _ ?_
  refine g_op (.free rfl) fun K7 hK7 => ?_
  refine go_box rfl rfl rfl rfl rfl ?_
  intro B6
  refine hK7 _ _ ?_
  refine g_v (.free rfl) rfl rfl (qt_assign rfl rfl) ?_
  refine g_nil ?_
  refine gk_then (hK1 _ _ ?_)
  refine gc_seq fun K8 hK8 => ?_
  refine gc_region ?_
  refine g_v (.free rfl) rfl rfl (qt_assign rfl rfl) ?_
  refine g_nil ?_
  refine gk_then (hK8 _ _ ?_)
  refine gc_seq fun K9 hK9 => ?_
  refine gc_region ?_
  refine g_v (.free rfl) rfl rfl (qt_loadS (n := 0) rfl rfl Try.underlying25 rfl (by kernel_rfl) rfl) ?_
  refine g_v (.free rfl) rfl rfl (qt_move rfl rfl) ?_
  refine g_q (.free rfl) rfl rfl (qt_call rfl Try.func13 rfl (by decide) rfl (fun w M => szC_gt w _ _ _ (inC_below M.1 I0) (by first | assumption | omega) (by first | assumption | omega) (by first | assumption | omega))) ?_
  refine g_v (.free rfl) rfl rfl (qt_assign rfl rfl) ?_
  refine g_nil ?_
  refine gk_then (hK9 _ _ ?_)
  refine gc_seq fun K10 hK10 => ?_
  refine gc_seq fun K11 hK11 => ?_
  refine gc_region ?_
  refine g_v (.free rfl) rfl rfl (qt_move rfl rfl) ?_
  refine g_v (.free rfl) rfl rfl (qt_lss_t rfl rfl rfl (by decide)) ?_
  refine g_nil ?_
  refine gk_then (hK11 _ _ ?_)
  refine gc_cond_t rfl ?_
  refine gc_seq fun K12 hK12 => ?_
  refine gc_region ?_
  refine g_v (.free rfl) rfl rfl (qt_assign rfl rfl) ?_
  refine g_nil ?_
  refine gk_then (hK12 _ _ ?_)
  refine gc_ret ?_
  refine gk_then_ret ?_
  refine ret_1 rfl rfl  (fun w M => ?_)
  exact ⟨rfl, M.1⟩

set_option maxHeartbeats 1000000 in
set_option maxRecDepth 100000 in
theorem big1 (w : World) (v0 : Value) (a0 : Cat) (v1 : Value) (a1 : Cat) (v2 : Value) (a2 : Fct) (a3 : Int) (r0 : Fct) (r1 : Int) (h0 : InC w v0 a0) (h1 : InC w v1 a1) (h2 : InF w v2 a2) (l0 : szM a0 ≤ 1048576) (nl : ¬ (szM a0 + szM a1 ≤ 1048576)) :
    Calls Try.prog 4 #[v0, v1, v2, .int .i64 a3] w (RetB w true) := by
  have I0 := h0
  obtain ⟨pa0, pb0, pc0, pd0, pe0, pf0, pg0, ph0, rfl⟩ := h0.form
  have mz0 := mz_le a0
  have I1 := h1
  obtain ⟨pa1, pb1, pc1, pd1, pe1, pf1, pg1, ph1, rfl⟩ := h1.form
  have mz1 := mz_le a1
  have I2 := h2
  obtain ⟨px1_2, px2_2, px3_2, px4_2, px5_2, px6_2, px7_2, px8_2, px9_2, px10_2, pk1_2, pk2_2, pk3_2, pk4_2, pk5_2, pk6_2, pk7_2, pk8_2, pk9_2, pk10_2, rfl, _⟩ := h2.form
  go_enter Try.func4, Try.ntmps4
  refine gc_enter (N := 147) rfl (look_cons (k := 0) rfl (look_cons (k := 1) rfl (look_cons (k := 2) rfl (look_cons (k := 3) rfl (look_nil _))))) ?_
  refine gc_seq fun K1 hK1 => ?_
  refine gc_region ?_
  refine g_op (.free rfl) fun K3 hK3 => ?_
  refine go_box rfl rfl rfl rfl rfl ?_
  intro B2
  refine hK3 _ _ ?_
  refine g_op (.free rfl) fun K5 hK5 => ?_
  refine go_box rfl rfl rfl rfl rfl ?_
  intro B4
  refine hK5 _ _ ?_
  refine g_op (.free rfl) fun K7 hK7 => ?_
  refine go_box rfl rfl rfl rfl rfl ?_
  intro B6
  refine hK7 _ _ ?_
  refine g_v (.free rfl) rfl rfl (qt_assign rfl rfl) ?_
  refine g_nil ?_
  refine gk_then (hK1 _ _ ?_)
  refine gc_seq fun K8 hK8 => ?_
  refine gc_region ?_
  refine g_v (.free rfl) rfl rfl (qt_assign rfl rfl) ?_
  refine g_nil ?_
  refine gk_then (hK8 _ _ ?_)
  refine gc_seq fun K9 hK9 => ?_
  refine gc_region ?_
  refine g_v (.free rfl) rfl rfl (qt_loadS (n := 0) rfl rfl Try.underlying25 rfl (by kernel_rfl) rfl) ?_
  refine g_v (.free rfl) rfl rfl (qt_move rfl rfl) ?_
  refine g_q (.free rfl) rfl rfl (qt_call rfl Try.func13 rfl (by decide) rfl (fun w M => szC_le w _ _ _ (inC_below M.1 I0) (by first | assumption | omega) (by first | assumption | omega) (by first | assumption | omega))) ?_
  refine g_v (.free rfl) rfl rfl (qt_assign rfl rfl) ?_
  refine g_nil ?_
  refine gk_then (hK9 _ _ ?_)
  refine gc_seq fun K10 hK10 => ?_
  refine gc_seq fun K11 hK11 => ?_
  refine gc_region ?_
  refine g_v (.free rfl) rfl rfl (qt_move rfl rfl) ?_
  refine g_v (.free rfl) rfl rfl (qt_lss rfl rfl rfl) ?_
  refine g_nil ?_
  refine gk_then (hK11 _ _ ?_)
  refine gc_cond rfl (fun hc0 => ?_) (fun hc0 => ?_)
  · try simp only [decide_eq_true_eq, decide_eq_false_iff_not, Bool.not_eq_true', Bool.not_eq_false', Bool.not_eq_eq_eq_not, Bool.not_true, Bool.not_false, ne_eq, Decidable.not_not, Classical.not_not] at hc0
    first | (exfalso; omega) | exact absurd rfl hc0 | (simp at hc0)
  · try simp only [decide_eq_true_eq, decide_eq_false_iff_not, Bool.not_eq_true', Bool.not_eq_false', Bool.not_eq_eq_eq_not, Bool.not_true, Bool.not_false, ne_eq, Decidable.not_not, Classical.not_not] at hc0
    refine gc_skip ?_
    refine gk_then (hK10 _ _ ?_)
    refine gc_seq fun K12 hK12 => ?_
    refine gc_region ?_
    refine g_v (.free rfl) rfl rfl (qt_loadS (n := 1) rfl rfl Try.underlying25 rfl (by kernel_rfl) rfl) ?_
    refine g_v (.free rfl) rfl rfl (qt_move rfl rfl) ?_
    refine g_q (.free rfl) rfl rfl (qt_call rfl Try.func13 rfl (by decide) rfl (fun w M => szC_gt w _ _ _ (inC_below M.1 I1) (by first | assumption | omega) (by first | assumption | omega) (by first | assumption | omega))) ?_
    refine g_v (.free rfl) rfl rfl (qt_assign rfl rfl) ?_
    refine g_nil ?_
    refine gk_then (hK12 _ _ ?_)
    refine gc_seq fun K13 hK13 => ?_
    refine gc_seq fun K14 hK14 => ?_
    refine gc_region ?_
    refine g_v (.free rfl) rfl rfl (qt_move rfl rfl) ?_
    refine g_v (.free rfl) rfl rfl (qt_lss_t rfl rfl rfl (by decide)) ?_
    refine g_nil ?_
    refine gk_then (hK14 _ _ ?_)
    refine gc_cond_t rfl ?_
    refine gc_seq fun K15 hK15 => ?_
    refine gc_region ?_
    refine g_v (.free rfl) rfl rfl (qt_assign rfl rfl) ?_
    refine g_nil ?_
    refine gk_then (hK15 _ _ ?_)
    refine gc_ret ?_
    refine gk_then_ret ?_
    refine ret_1 rfl rfl  (fun w M => ?_)
    exact ⟨rfl, M.1⟩

set_option maxHeartbeats 1000000 in
set_option maxRecDepth 100000 in
theorem big2 (w : World) (v0 : Value) (a0 : Cat) (v1 : Value) (a1 : Cat) (v2 : Value) (a2 : Fct) (a3 : Int) (r0 : Fct) (r1 : Int) (h0 : InC w v0 a0) (h1 : InC w v1 a1) (h2 : InF w v2 a2) (l0 : szM a0 ≤ 1048576) (l1 : szM a0 + szM a1 ≤ 1048576) (nl : ¬ (szM a0 + szM a1 + szFn a2 ≤ 1048576)) :
    Calls Try.prog 4 #[v0, v1, v2, .int .i64 a3] w (RetB w true) := by
  have I0 := h0
  obtain ⟨pa0, pb0, pc0, pd0, pe0, pf0, pg0, ph0, rfl⟩ := h0.form
  have mz0 := mz_le a0
  have I1 := h1
  obtain ⟨pa1, pb1, pc1, pd1, pe1, pf1, pg1, ph1, rfl⟩ := h1.form
  have mz1 := mz_le a1
  have I2 := h2
  obtain ⟨px1_2, px2_2, px3_2, px4_2, px5_2, px6_2, px7_2, px8_2, px9_2, px10_2, pk1_2, pk2_2, pk3_2, pk4_2, pk5_2, pk6_2, pk7_2, pk8_2, pk9_2, pk10_2, rfl, _⟩ := h2.form
  go_enter Try.func4, Try.ntmps4
  refine gc_enter (N := 147) rfl (look_cons (k := 0) rfl (look_cons (k := 1) rfl (look_cons (k := 2) rfl (look_cons (k := 3) rfl (look_nil _))))) ?_
  refine gc_seq fun K1 hK1 => ?_
  refine gc_region ?_
  refine g_op (.free rfl) fun K3 hK3 => ?_
  refine go_box rfl rfl rfl rfl rfl ?_
  intro B2
  refine hK3 _ _ ?_
  refine g_op (.free rfl) fun K5 hK5 => ?_
  refine go_box rfl rfl rfl rfl rfl ?_
  intro B4
  refine hK5 _ _ ?_
  refine g_op (.free rfl) fun K7 hK7 => ?_
  refine go_box rfl rfl rfl rfl rfl ?_
  intro B6
  refine hK7 _ _ ?_
  refine g_v (.free rfl) rfl rfl (qt_assign rfl rfl) ?_
  refine g_nil ?_
  refine gk_then (hK1 _ _ ?_)
  refine gc_seq fun K8 hK8 => ?_
  refine gc_region ?_
  refine g_v (.free rfl) rfl rfl (qt_assign rfl rfl) ?_
  refine g_nil ?_
  refine gk_then (hK8 _ _ ?_)
  refine gc_seq fun K9 hK9 => ?_
  refine gc_region ?_
  refine g_v (.free rfl) rfl rfl (qt_loadS (n := 0) rfl rfl Try.underlying25 rfl (by kernel_rfl) rfl) ?_
  refine g_v (.free rfl) rfl rfl (qt_move rfl rfl) ?_
  refine g_q (.free rfl) rfl rfl (qt_call rfl Try.func13 rfl (by decide) rfl (fun w M => szC_le w _ _ _ (inC_below M.1 I0) (by first | assumption | omega) (by first | assumption | omega) (by first | assumption | omega))) ?_
  refine g_v (.free rfl) rfl rfl (qt_assign rfl rfl) ?_
  refine g_nil ?_
  refine gk_then (hK9 _ _ ?_)
  refine gc_seq fun K10 hK10 => ?_
  refine gc_seq fun K11 hK11 => ?_
  refine gc_region ?_
  refine g_v (.free rfl) rfl rfl (qt_move rfl rfl) ?_
  refine g_v (.free rfl) rfl rfl (qt_lss rfl rfl rfl) ?_
  refine g_nil ?_
  refine gk_then (hK11 _ _ ?_)
  refine gc_cond rfl (fun hc0 => ?_) (fun hc0 => ?_)
  · try simp only [decide_eq_true_eq, decide_eq_false_iff_not, Bool.not_eq_true', Bool.not_eq_false', Bool.not_eq_eq_eq_not, Bool.not_true, Bool.not_false, ne_eq, Decidable.not_not, Classical.not_not] at hc0
    first | (exfalso; omega) | exact absurd rfl hc0 | (simp at hc0)
  · try simp only [decide_eq_true_eq, decide_eq_false_iff_not, Bool.not_eq_true', Bool.not_eq_false', Bool.not_eq_eq_eq_not, Bool.not_true, Bool.not_false, ne_eq, Decidable.not_not, Classical.not_not] at hc0
    refine gc_skip ?_
    refine gk_then (hK10 _ _ ?_)
    refine gc_seq fun K12 hK12 => ?_
    refine gc_region ?_
    refine g_v (.free rfl) rfl rfl (qt_loadS (n := 1) rfl rfl Try.underlying25 rfl (by kernel_rfl) rfl) ?_
    refine g_v (.free rfl) rfl rfl (qt_move rfl rfl) ?_
    refine g_q (.free rfl) rfl rfl (qt_call rfl Try.func13 rfl (by decide) rfl (fun w M => szC_le w _ _ _ (inC_below M.1 I1) (by first | assumption | omega) (by first | assumption | omega) (by first | assumption | omega))) ?_
    refine g_v (.free rfl) rfl rfl (qt_assign rfl rfl) ?_
    refine g_nil ?_
    refine gk_then (hK12 _ _ ?_)
    refine gc_seq fun K13 hK13 => ?_
    refine gc_seq fun K14 hK14 => ?_
    refine gc_region ?_
    refine g_v (.free rfl) rfl rfl (qt_move rfl rfl) ?_
    refine g_v (.free rfl) rfl rfl (qt_lss rfl rfl rfl) ?_
    refine g_nil ?_
    refine gk_then (hK14 _ _ ?_)
    refine gc_cond rfl (fun hc1 => ?_) (fun hc1 => ?_)
    · try simp only [decide_eq_true_eq, decide_eq_false_iff_not, Bool.not_eq_true', Bool.not_eq_false', Bool.not_eq_eq_eq_not, Bool.not_true, Bool.not_false, ne_eq, Decidable.not_not, Classical.not_not] at hc1
      first | (exfalso; omega) | exact absurd rfl hc1 | (simp at hc1)
    · try simp only [decide_eq_true_eq, decide_eq_false_iff_not, Bool.not_eq_true', Bool.not_eq_false', Bool.not_eq_eq_eq_not, Bool.not_true, Bool.not_false, ne_eq, Decidable.not_not, Classical.not_not] at hc1
      refine gc_skip ?_
      refine gk_then (hK13 _ _ ?_)
      refine gc_seq fun K15 hK15 => ?_
      refine gc_region ?_
      refine g_v (.free rfl) rfl rfl (qt_loadS (n := 2) rfl rfl Try.underlying27 rfl (by kernel_rfl) rfl) ?_
      refine g_v (.free rfl) rfl rfl (qt_move rfl rfl) ?_
      refine g_q (.free rfl) rfl rfl (qt_call rfl Try.func14 rfl (by decide) rfl (fun w M => szF_gt w _ _ _ (inF_below M.1 I2) (by first | assumption | omega) (by first | assumption | omega) (by first | assumption | omega))) ?_
      refine g_v (.free rfl) rfl rfl (qt_assign rfl rfl) ?_
      refine g_nil ?_
      refine gk_then (hK15 _ _ ?_)
      refine gc_seq fun K16 hK16 => ?_
      refine gc_seq fun K17 hK17 => ?_
      refine gc_region ?_
      refine g_v (.free rfl) rfl rfl (qt_move rfl rfl) ?_
      refine g_v (.free rfl) rfl rfl (qt_lss_t rfl rfl rfl (by decide)) ?_
      refine g_nil ?_
      refine gk_then (hK17 _ _ ?_)
      refine gc_cond_t rfl ?_
      refine gc_seq fun K18 hK18 => ?_
      refine gc_region ?_
      refine g_v (.free rfl) rfl rfl (qt_assign rfl rfl) ?_
      refine g_nil ?_
      refine gk_then (hK18 _ _ ?_)
      refine gc_ret ?_
      refine gk_then_ret ?_
      refine ret_1 rfl rfl  (fun w M => ?_)
      exact ⟨rfl, M.1⟩

theorem walk (w : World) (v0 : Value) (a0 : Cat) (v1 : Value) (a1 : Cat) (v2 : Value) (a2 : Fct) (a3 : Int) (r0 : Fct) (r1 : Int) (h0 : InC w v0 a0) (h1 : InC w v1 a1) (h2 : InF w v2 a2) (hr0 : mzF r0 ≤ 3500000000000000) (hspec : (∀ (w : World) (v0 : Value) (v1 : Value) (v2 : Value), RdC w v0 a0 → RdC w v1 a1 → RdF w v2 a2 → Calls Try.prog 24 #[v0, v1, v2, (.int .i64 a3)] w (RetFI w r0 r1))) (himpl : (∀ (w : World) (v0 : Value) (v1 : Value) (v2 : Value), RdC w v0 a0 → RdC w v1 a1 → RdF w v2 a2 → Calls Try.prog 25 #[v0, v1, v2, (.int .i64 a3)] w (RetFI w r0 r1))) :
    Calls Try.prog 4 #[v0, v1, v2, (.int .i64 a3)] w (RetB w true) := by
  by_cases l0 : szM a0 ≤ 1048576
  rotate_left
  · exact big0 w v0 a0 v1 a1 v2 a2 a3 r0 r1 h0 h1 h2 l0
  by_cases l1 : szM a0 + szM a1 ≤ 1048576
  rotate_left
  · exact big1 w v0 a0 v1 a1 v2 a2 a3 r0 r1 h0 h1 h2 l0 l1
  by_cases l2 : szM a0 + szM a1 + szFn a2 ≤ 1048576
  rotate_left
  · exact big2 w v0 a0 v1 a1 v2 a2 a3 r0 r1 h0 h1 h2 l0 l1 l2
  exact main w v0 a0 v1 a1 v2 a2 a3 r0 r1 h0 l0 h1 l1 h2 l2 hr0 hspec himpl

set_option maxHeartbeats 4000000 in
set_option maxRecDepth 100000 in
theorem lifted (os : Os) (started : os.Started) (H : Type) (enc : TypeId × Value → H) :
    ReturnsInHanded {} Try.checked os 4 .any (Rows.fnExactFixSecondSpec.pre6 enc Try.prog Try.f4 Rows.fnExactFixSecondRow.domain false) (Rows.fnExactFixSecondSpec.post enc Try.prog Try.f4 false true false false) := by
  refine returnsInHanded_of_change (C := Try.checked) own started (by kernel_rfl) Try.func4
    (ChangeSpec.witness6 (enc := enc) (C := Try.checked) false ⟨#[], #[.agg #[.int .i64 0, .slice none 0 0, .slice none 0 0, .slice none 0 0, .slice none 0 0], .agg #[.int .i64 0, .slice none 0 0, .slice none 0 0, .slice none 0 0, .slice none 0 0], .agg #[.int .i64 0, .slice none 0 0, .slice none 0 0, .slice none 0 0, .slice none 0 0, .int .i64 0, .slice none 0 0, .slice none 0 0, .slice none 0 0, .slice none 0 0, .slice none 0 0, .slice none 0 0], .int .i64 0], []⟩ 8 (by kernel_rfl) (by kernel_rfl) (by kernel_rfl) (by kernel_rfl)) ?_
  intro W base args ds gs before hval0 hW _ _
  have hval : ∀ (j : Nat) t v, Try.f4.params[j]? = some t → args[j]? = some v → Value.okWide Try.prog W .any base t v := hval0
  have hW' := hW
  obtain ⟨p, q, hA0, hV, rfl, _, _⟩ := hW
  have hA : DataW.TrodAll enc Try.prog W 0 (fun _ => true) true Try.f4.params.toList args.toList ds p := hA0
  rw [Try.params4] at hA hval
  obtain ⟨v0, vs0, d0, ds0, p0, q0, hargs, rfl, rfl, t0, s0⟩ := trodAll_cons hA
  obtain ⟨v1, vs1, d1, ds1, p1, q1, rfl, rfl, rfl, t1, s1⟩ := trodAll_cons s0
  obtain ⟨v2, vs2, d2, ds2, p2, q2, rfl, rfl, rfl, t2, s2⟩ := trodAll_cons s1
  obtain ⟨v3, vs3, d3, ds3, p3, q3, rfl, rfl, rfl, t3, s3⟩ := trodAll_cons s2
  obtain ⟨rfl, rfl, rfl⟩ := trodAll_nil s3
  obtain rfl : args = #[v0, v1, v2, v3] := by cases args; simp_all
  obtain ⟨rfl, rfl⟩ := trodVars_none hV
  obtain ⟨a0, h0⟩ := open_inC (hval 0 25 v0 rfl rfl) t0
  obtain ⟨a1, h1⟩ := open_inC (hval 1 25 v1 rfl rfl) t1
  obtain ⟨a2, h2⟩ := open_inF (hval 2 27 v2 rfl rfl) t2
  obtain ⟨a3, rfl, rfl, rfl, _⟩ := open_int Try.underlying2 (hval 3 2 v3 rfl rfl) t3
  clear hA0 hval0
  refine (walk W v0 a0 v1 a1 v2 a2 a3 (fFixSecond a0 a1 a2 a3).1 (fFixSecond a0 a1 a2 a3).2 h0 h1 h2 (bound_FixSecond a0 a1 a2 a3) (fun u v0 v1 v2 k0 k1 k2 => spec_FixSecond u v0 a0 v1 a1 v2 a2 a3 k0 k1 k2) (fun u v0 v1 v2 k0 k1 k2 => impl_FixSecond u v0 a0 v1 a1 v2 a2 a3 k0 k1 k2)).mono fun e W' ⟨he, hg⟩ => ?_
  subst he
  exact ⟨_, rfl, law_post rfl (by kernel_rfl) hW' (by kernel_rfl) rfl rfl rfl hg⟩

theorem over : Rows.fnExactFixSecondRow.holds Try.pinned (OpenSpec.ofChange Rows.fnExactFixSecondSpec) :=
  OpenClaim.holds_of_wide 4 Try.f4 rfl rfl rfl rfl rfl rfl rfl ⟨rfl, rfl, rfl, rfl, rfl⟩ rfl rfl rfl rfl rfl (by kernel_rfl) Try.func4 (by kernel_rfl)
    (of_decide_eq_true (by kernel_rfl)) (by unfold Func.isWrapper; first | (rw [if_pos (by decide +kernel)]; kernel_rfl) | (rw [if_neg (by decide +kernel)]; exact ⟨rfl, rfl⟩))
    (fun os started H enc _ => lifted os started H enc)

theorem proved : Rows.FnExactFixSecondSaid := over
end Go.Proofs.Ytfnneogadciimab.exactFixSecond
