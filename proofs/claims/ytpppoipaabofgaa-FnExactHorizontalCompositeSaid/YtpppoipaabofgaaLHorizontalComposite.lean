
/- The exact law of HorizontalComposite: its model and its program do the same, in memory of their own. Written by wip/tools/genlaw.py. -/
import Derived.Test.YtpppoipaabofgaaBase
import Derived.Test.YtpppoipaabofgaaLawC
import Derived.Test.YtpppoipaabofgaaRul4
import Derived.Test.YtpppoipaabofgaaFunL
import Derived.Test.YtpppoipaabofgaaTrXH
set_option linter.unusedSimpArgs false
set_option linter.unusedVariables false
set_option linter.unusedSectionVars false
namespace Go.Proofs.Ytpppoipaabofgaa.exactHorizontalComposite
open Go.ChangeShapes Go.WideShapes Go.ChangeAt Go.RowKit
set_option maxHeartbeats 4000000 in
set_option maxRecDepth 100000 in
theorem main (w : World) (v0 : Value) (a0 : Tra) (v1 : Value) (a1 : Tra) (r0 : Tra) (r1 : Int) (h0 : InTr w v0 a0) (l0 : szTr a0 ≤ 1048576) (h1 : InTr w v1 a1) (l1 : szTr a0 + szTr a1 ≤ 1048576) (hr0 : mzTr r0 ≤ 7500000000000000) (hspec : (∀ (w : World) (v0 : Value) (v1 : Value), RdTr w v0 a0 → RdTr w v1 a1 → Calls Try.prog 34 #[v0, v1] w (RetTrI w r0 r1))) (himpl : (∀ (w : World) (v0 : Value) (v1 : Value), RdTr w v0 a0 → RdTr w v1 a1 → Calls Try.prog 35 #[v0, v1] w (RetTrI w r0 r1))) :
    Calls Try.prog 9 #[v0, v1] w (RetB w true) := by
  have R0 := h0.rd (by omega)
  have mz0 := mzTr_le a0
  have I0 := h0
  obtain ⟨px1_0, px2_0, px3_0, px4_0, px5_0, px6_0, px7_0, px8_0, px9_0, px10_0, px11_0, px12_0, px13_0, px14_0, px15_0, px16_0, px17_0, px18_0, px19_0, px20_0, px21_0, pk1_0, pk2_0, pk3_0, pk4_0, pk5_0, pk6_0, pk7_0, pk8_0, pk9_0, pk10_0, pk11_0, pk12_0, pk13_0, pk14_0, pk15_0, pk16_0, pk17_0, pk18_0, pk19_0, pk20_0, pk21_0, rfl, _⟩ := h0.form
  have R1 := h1.rd (by omega)
  have mz1 := mzTr_le a1
  have I1 := h1
  obtain ⟨px1_1, px2_1, px3_1, px4_1, px5_1, px6_1, px7_1, px8_1, px9_1, px10_1, px11_1, px12_1, px13_1, px14_1, px15_1, px16_1, px17_1, px18_1, px19_1, px20_1, px21_1, pk1_1, pk2_1, pk3_1, pk4_1, pk5_1, pk6_1, pk7_1, pk8_1, pk9_1, pk10_1, pk11_1, pk12_1, pk13_1, pk14_1, pk15_1, pk16_1, pk17_1, pk18_1, pk19_1, pk20_1, pk21_1, rfl, _⟩ := h1.form
  go_enter Try.func9, Try.ntmps9
  refine gc_enter (N := 119) rfl (look_cons (k := 0) rfl (look_cons (k := 1) rfl (look_nil _))) ?_
  refine gc_seq fun K1 hK1 => ?_
  refine gc_region ?_
  refine g_op (.free rfl) fun K3 hK3 => ?_
  refine go_box rfl rfl rfl rfl rfl ?_
  intro B2
  refine hK3 _ _ ?_
  refine g_op (.free rfl) fun K5 hK5 => ?_
  refine go_box rfl rfl rfl rfl rfl ?_
  intro B4
  refine hK5 _ _ ?_
  refine g_v (.free rfl) rfl rfl (qt_assign rfl rfl) ?_
  refine g_nil ?_
  refine gk_then (hK1 _ _ ?_)
  refine gc_seq fun K6 hK6 => ?_
  refine gc_region ?_
  refine g_v (.free rfl) rfl rfl (qt_assign rfl rfl) ?_
  refine g_nil ?_
  refine gk_then (hK6 _ _ ?_)
  refine gc_seq fun K7 hK7 => ?_
  refine gc_region ?_
  refine g_v (.free rfl) rfl rfl (qt_loadS (n := 0) rfl rfl Try.underlying29 rfl (by kernel_rfl) rfl) ?_
  refine g_v (.free rfl) rfl rfl (qt_move rfl rfl) ?_
  refine g_q (.free rfl) rfl rfl (qt_call rfl Try.func13 rfl (by decide) rfl (fun w M => szTr_le w _ _ _ (inTr_below M.1 I0) (by first | assumption | omega) (by first | assumption | omega) (by first | assumption | omega))) ?_
  refine g_v (.free rfl) rfl rfl (qt_assign rfl rfl) ?_
  refine g_nil ?_
  refine gk_then (hK7 _ _ ?_)
  refine gc_seq fun K8 hK8 => ?_
  refine gc_seq fun K9 hK9 => ?_
  refine gc_region ?_
  refine g_v (.free rfl) rfl rfl (qt_move rfl rfl) ?_
  refine g_v (.free rfl) rfl rfl (qt_lss rfl rfl rfl) ?_
  refine g_nil ?_
  refine gk_then (hK9 _ _ ?_)
  refine gc_cond rfl (fun hc0 => ?_) (fun hc0 => ?_)
  · try simp only [decide_eq_true_eq, decide_eq_false_iff_not, Bool.not_eq_true', Bool.not_eq_false', Bool.not_eq_eq_eq_not, Bool.not_true, Bool.not_false, ne_eq, Decidable.not_not, Classical.not_not] at hc0
    first | (exfalso; omega) | exact absurd rfl hc0 | (simp at hc0)
  · try simp only [decide_eq_true_eq, decide_eq_false_iff_not, Bool.not_eq_true', Bool.not_eq_false', Bool.not_eq_eq_eq_not, Bool.not_true, Bool.not_false, ne_eq, Decidable.not_not, Classical.not_not] at hc0
    refine gc_skip ?_
    refine gk_then (hK8 _ _ ?_)
    refine gc_seq fun K10 hK10 => ?_
    refine gc_region ?_
    refine g_v (.free rfl) rfl rfl (qt_loadS (n := 1) rfl rfl Try.underlying29 rfl (by kernel_rfl) rfl) ?_
    refine g_v (.free rfl) rfl rfl (qt_move rfl rfl) ?_
    refine g_q (.free rfl) rfl rfl (qt_call rfl Try.func13 rfl (by decide) rfl (fun w M => szTr_le w _ _ _ (inTr_below M.1 I1) (by first | assumption | omega) (by first | assumption | omega) (by first | assumption | omega))) ?_
    refine g_v (.free rfl) rfl rfl (qt_assign rfl rfl) ?_
    refine g_nil ?_
    refine gk_then (hK10 _ _ ?_)
    refine gc_seq fun K11 hK11 => ?_
    refine gc_seq fun K12 hK12 => ?_
    refine gc_region ?_
    refine g_v (.free rfl) rfl rfl (qt_move rfl rfl) ?_
    refine g_v (.free rfl) rfl rfl (qt_lss rfl rfl rfl) ?_
    refine g_nil ?_
    refine gk_then (hK12 _ _ ?_)
    refine gc_cond rfl (fun hc1 => ?_) (fun hc1 => ?_)
    · try simp only [decide_eq_true_eq, decide_eq_false_iff_not, Bool.not_eq_true', Bool.not_eq_false', Bool.not_eq_eq_eq_not, Bool.not_true, Bool.not_false, ne_eq, Decidable.not_not, Classical.not_not] at hc1
      first | (exfalso; omega) | exact absurd rfl hc1 | (simp at hc1)
    · try simp only [decide_eq_true_eq, decide_eq_false_iff_not, Bool.not_eq_true', Bool.not_eq_false', Bool.not_eq_eq_eq_not, Bool.not_true, Bool.not_false, ne_eq, Decidable.not_not, Classical.not_not] at hc1
      refine gc_skip ?_
      refine gk_then (hK11 _ _ ?_)
      refine gc_seq fun K13 hK13 => ?_
      try simp only [List.nil_append, List.cons_append, List.append_assoc, List.set_cons_succ, List.set_cons_zero]
      refine gc_cut ([(0, _), (1, _), (2, _), (3, _), (4, _), (5, _), (21, _), (26, _)] : Env) (fun s : (Option Addr) × Nat × (Option Addr) × Nat × (Option Addr) × Nat × (Option Addr) × Nat × (Option Addr) × Nat × (Option Addr) × Nat × (Option Addr) × Nat × (Option Addr) × Nat × (Option Addr) × Nat × (Option Addr) × Nat × (Option Addr) × Nat × (Option Addr) × Nat × (Option Addr) × Nat × (Option Addr) × Nat × (Option Addr) × Nat × (Option Addr) × Nat × (Option Addr) × Nat × (Option Addr) × Nat × (Option Addr) × Nat × (Option Addr) × Nat × (Option Addr) × Nat × Nat => (fun (jx1 : Option Addr) (jk1 : Nat) (jx2 : Option Addr) (jk2 : Nat) (jx3 : Option Addr) (jk3 : Nat) (jx4 : Option Addr) (jk4 : Nat) (jx5 : Option Addr) (jk5 : Nat) (jx6 : Option Addr) (jk6 : Nat) (jx7 : Option Addr) (jk7 : Nat) (jx8 : Option Addr) (jk8 : Nat) (jx9 : Option Addr) (jk9 : Nat) (jx10 : Option Addr) (jk10 : Nat) (jx11 : Option Addr) (jk11 : Nat) (jx12 : Option Addr) (jk12 : Nat) (jx13 : Option Addr) (jk13 : Nat) (jx14 : Option Addr) (jk14 : Nat) (jx15 : Option Addr) (jk15 : Nat) (jx16 : Option Addr) (jk16 : Nat) (jx17 : Option Addr) (jk17 : Nat) (jx18 : Option Addr) (jk18 : Nat) (jx19 : Option Addr) (jk19 : Nat) (jx20 : Option Addr) (jk20 : Nat) (jx21 : Option Addr) (jk21 : Nat) (JB : Nat) => ([(6, .pointer (some ⟨JB, 0, none⟩)), (7, .int .i64 r1)] : Env)) s.1 s.2.1 s.2.2.1 s.2.2.2.1 s.2.2.2.2.1 s.2.2.2.2.2.1 s.2.2.2.2.2.2.1 s.2.2.2.2.2.2.2.1 s.2.2.2.2.2.2.2.2.1 s.2.2.2.2.2.2.2.2.2.1 s.2.2.2.2.2.2.2.2.2.2.1 s.2.2.2.2.2.2.2.2.2.2.2.1 s.2.2.2.2.2.2.2.2.2.2.2.2.1 s.2.2.2.2.2.2.2.2.2.2.2.2.2.1 s.2.2.2.2.2.2.2.2.2.2.2.2.2.2.1 s.2.2.2.2.2.2.2.2.2.2.2.2.2.2.2.1 s.2.2.2.2.2.2.2.2.2.2.2.2.2.2.2.2.1 s.2.2.2.2.2.2.2.2.2.2.2.2.2.2.2.2.2.1 s.2.2.2.2.2.2.2.2.2.2.2.2.2.2.2.2.2.2.1 s.2.2.2.2.2.2.2.2.2.2.2.2.2.2.2.2.2.2.2.1 s.2.2.2.2.2.2.2.2.2.2.2.2.2.2.2.2.2.2.2.2.1 s.2.2.2.2.2.2.2.2.2.2.2.2.2.2.2.2.2.2.2.2.2.1 s.2.2.2.2.2.2.2.2.2.2.2.2.2.2.2.2.2.2.2.2.2.2.1 s.2.2.2.2.2.2.2.2.2.2.2.2.2.2.2.2.2.2.2.2.2.2.2.1 s.2.2.2.2.2.2.2.2.2.2.2.2.2.2.2.2.2.2.2.2.2.2.2.2.1 s.2.2.2.2.2.2.2.2.2.2.2.2.2.2.2.2.2.2.2.2.2.2.2.2.2.1 s.2.2.2.2.2.2.2.2.2.2.2.2.2.2.2.2.2.2.2.2.2.2.2.2.2.2.1 s.2.2.2.2.2.2.2.2.2.2.2.2.2.2.2.2.2.2.2.2.2.2.2.2.2.2.2.1 s.2.2.2.2.2.2.2.2.2.2.2.2.2.2.2.2.2.2.2.2.2.2.2.2.2.2.2.2.1 s.2.2.2.2.2.2.2.2.2.2.2.2.2.2.2.2.2.2.2.2.2.2.2.2.2.2.2.2.2.1 s.2.2.2.2.2.2.2.2.2.2.2.2.2.2.2.2.2.2.2.2.2.2.2.2.2.2.2.2.2.2.1 s.2.2.2.2.2.2.2.2.2.2.2.2.2.2.2.2.2.2.2.2.2.2.2.2.2.2.2.2.2.2.2.1 s.2.2.2.2.2.2.2.2.2.2.2.2.2.2.2.2.2.2.2.2.2.2.2.2.2.2.2.2.2.2.2.2.1 s.2.2.2.2.2.2.2.2.2.2.2.2.2.2.2.2.2.2.2.2.2.2.2.2.2.2.2.2.2.2.2.2.2.1 s.2.2.2.2.2.2.2.2.2.2.2.2.2.2.2.2.2.2.2.2.2.2.2.2.2.2.2.2.2.2.2.2.2.2.1 s.2.2.2.2.2.2.2.2.2.2.2.2.2.2.2.2.2.2.2.2.2.2.2.2.2.2.2.2.2.2.2.2.2.2.2.1 s.2.2.2.2.2.2.2.2.2.2.2.2.2.2.2.2.2.2.2.2.2.2.2.2.2.2.2.2.2.2.2.2.2.2.2.2.1 s.2.2.2.2.2.2.2.2.2.2.2.2.2.2.2.2.2.2.2.2.2.2.2.2.2.2.2.2.2.2.2.2.2.2.2.2.2.1 s.2.2.2.2.2.2.2.2.2.2.2.2.2.2.2.2.2.2.2.2.2.2.2.2.2.2.2.2.2.2.2.2.2.2.2.2.2.2.1 s.2.2.2.2.2.2.2.2.2.2.2.2.2.2.2.2.2.2.2.2.2.2.2.2.2.2.2.2.2.2.2.2.2.2.2.2.2.2.2.1 s.2.2.2.2.2.2.2.2.2.2.2.2.2.2.2.2.2.2.2.2.2.2.2.2.2.2.2.2.2.2.2.2.2.2.2.2.2.2.2.2.1 s.2.2.2.2.2.2.2.2.2.2.2.2.2.2.2.2.2.2.2.2.2.2.2.2.2.2.2.2.2.2.2.2.2.2.2.2.2.2.2.2.2.1 s.2.2.2.2.2.2.2.2.2.2.2.2.2.2.2.2.2.2.2.2.2.2.2.2.2.2.2.2.2.2.2.2.2.2.2.2.2.2.2.2.2.2) (fun s : (Option Addr) × Nat × (Option Addr) × Nat × (Option Addr) × Nat × (Option Addr) × Nat × (Option Addr) × Nat × (Option Addr) × Nat × (Option Addr) × Nat × (Option Addr) × Nat × (Option Addr) × Nat × (Option Addr) × Nat × (Option Addr) × Nat × (Option Addr) × Nat × (Option Addr) × Nat × (Option Addr) × Nat × (Option Addr) × Nat × (Option Addr) × Nat × (Option Addr) × Nat × (Option Addr) × Nat × (Option Addr) × Nat × (Option Addr) × Nat × (Option Addr) × Nat × Nat => (fun (jx1 : Option Addr) (jk1 : Nat) (jx2 : Option Addr) (jk2 : Nat) (jx3 : Option Addr) (jk3 : Nat) (jx4 : Option Addr) (jk4 : Nat) (jx5 : Option Addr) (jk5 : Nat) (jx6 : Option Addr) (jk6 : Nat) (jx7 : Option Addr) (jk7 : Nat) (jx8 : Option Addr) (jk8 : Nat) (jx9 : Option Addr) (jk9 : Nat) (jx10 : Option Addr) (jk10 : Nat) (jx11 : Option Addr) (jk11 : Nat) (jx12 : Option Addr) (jk12 : Nat) (jx13 : Option Addr) (jk13 : Nat) (jx14 : Option Addr) (jk14 : Nat) (jx15 : Option Addr) (jk15 : Nat) (jx16 : Option Addr) (jk16 : Nat) (jx17 : Option Addr) (jk17 : Nat) (jx18 : Option Addr) (jk18 : Nat) (jx19 : Option Addr) (jk19 : Nat) (jx20 : Option Addr) (jk20 : Nat) (jx21 : Option Addr) (jk21 : Nat) (JB : Nat) => ([] : List (Nat × Itm))) s.1 s.2.1 s.2.2.1 s.2.2.2.1 s.2.2.2.2.1 s.2.2.2.2.2.1 s.2.2.2.2.2.2.1 s.2.2.2.2.2.2.2.1 s.2.2.2.2.2.2.2.2.1 s.2.2.2.2.2.2.2.2.2.1 s.2.2.2.2.2.2.2.2.2.2.1 s.2.2.2.2.2.2.2.2.2.2.2.1 s.2.2.2.2.2.2.2.2.2.2.2.2.1 s.2.2.2.2.2.2.2.2.2.2.2.2.2.1 s.2.2.2.2.2.2.2.2.2.2.2.2.2.2.1 s.2.2.2.2.2.2.2.2.2.2.2.2.2.2.2.1 s.2.2.2.2.2.2.2.2.2.2.2.2.2.2.2.2.1 s.2.2.2.2.2.2.2.2.2.2.2.2.2.2.2.2.2.1 s.2.2.2.2.2.2.2.2.2.2.2.2.2.2.2.2.2.2.1 s.2.2.2.2.2.2.2.2.2.2.2.2.2.2.2.2.2.2.2.1 s.2.2.2.2.2.2.2.2.2.2.2.2.2.2.2.2.2.2.2.2.1 s.2.2.2.2.2.2.2.2.2.2.2.2.2.2.2.2.2.2.2.2.2.1 s.2.2.2.2.2.2.2.2.2.2.2.2.2.2.2.2.2.2.2.2.2.2.1 s.2.2.2.2.2.2.2.2.2.2.2.2.2.2.2.2.2.2.2.2.2.2.2.1 s.2.2.2.2.2.2.2.2.2.2.2.2.2.2.2.2.2.2.2.2.2.2.2.2.1 s.2.2.2.2.2.2.2.2.2.2.2.2.2.2.2.2.2.2.2.2.2.2.2.2.2.1 s.2.2.2.2.2.2.2.2.2.2.2.2.2.2.2.2.2.2.2.2.2.2.2.2.2.2.1 s.2.2.2.2.2.2.2.2.2.2.2.2.2.2.2.2.2.2.2.2.2.2.2.2.2.2.2.1 s.2.2.2.2.2.2.2.2.2.2.2.2.2.2.2.2.2.2.2.2.2.2.2.2.2.2.2.2.1 s.2.2.2.2.2.2.2.2.2.2.2.2.2.2.2.2.2.2.2.2.2.2.2.2.2.2.2.2.2.1 s.2.2.2.2.2.2.2.2.2.2.2.2.2.2.2.2.2.2.2.2.2.2.2.2.2.2.2.2.2.2.1 s.2.2.2.2.2.2.2.2.2.2.2.2.2.2.2.2.2.2.2.2.2.2.2.2.2.2.2.2.2.2.2.1 s.2.2.2.2.2.2.2.2.2.2.2.2.2.2.2.2.2.2.2.2.2.2.2.2.2.2.2.2.2.2.2.2.1 s.2.2.2.2.2.2.2.2.2.2.2.2.2.2.2.2.2.2.2.2.2.2.2.2.2.2.2.2.2.2.2.2.2.1 s.2.2.2.2.2.2.2.2.2.2.2.2.2.2.2.2.2.2.2.2.2.2.2.2.2.2.2.2.2.2.2.2.2.2.1 s.2.2.2.2.2.2.2.2.2.2.2.2.2.2.2.2.2.2.2.2.2.2.2.2.2.2.2.2.2.2.2.2.2.2.2.1 s.2.2.2.2.2.2.2.2.2.2.2.2.2.2.2.2.2.2.2.2.2.2.2.2.2.2.2.2.2.2.2.2.2.2.2.2.1 s.2.2.2.2.2.2.2.2.2.2.2.2.2.2.2.2.2.2.2.2.2.2.2.2.2.2.2.2.2.2.2.2.2.2.2.2.2.1 s.2.2.2.2.2.2.2.2.2.2.2.2.2.2.2.2.2.2.2.2.2.2.2.2.2.2.2.2.2.2.2.2.2.2.2.2.2.2.1 s.2.2.2.2.2.2.2.2.2.2.2.2.2.2.2.2.2.2.2.2.2.2.2.2.2.2.2.2.2.2.2.2.2.2.2.2.2.2.2.1 s.2.2.2.2.2.2.2.2.2.2.2.2.2.2.2.2.2.2.2.2.2.2.2.2.2.2.2.2.2.2.2.2.2.2.2.2.2.2.2.2.1 s.2.2.2.2.2.2.2.2.2.2.2.2.2.2.2.2.2.2.2.2.2.2.2.2.2.2.2.2.2.2.2.2.2.2.2.2.2.2.2.2.2.1 s.2.2.2.2.2.2.2.2.2.2.2.2.2.2.2.2.2.2.2.2.2.2.2.2.2.2.2.2.2.2.2.2.2.2.2.2.2.2.2.2.2.2) (fun s : (Option Addr) × Nat × (Option Addr) × Nat × (Option Addr) × Nat × (Option Addr) × Nat × (Option Addr) × Nat × (Option Addr) × Nat × (Option Addr) × Nat × (Option Addr) × Nat × (Option Addr) × Nat × (Option Addr) × Nat × (Option Addr) × Nat × (Option Addr) × Nat × (Option Addr) × Nat × (Option Addr) × Nat × (Option Addr) × Nat × (Option Addr) × Nat × (Option Addr) × Nat × (Option Addr) × Nat × (Option Addr) × Nat × (Option Addr) × Nat × (Option Addr) × Nat × Nat => (fun (jx1 : Option Addr) (jk1 : Nat) (jx2 : Option Addr) (jk2 : Nat) (jx3 : Option Addr) (jk3 : Nat) (jx4 : Option Addr) (jk4 : Nat) (jx5 : Option Addr) (jk5 : Nat) (jx6 : Option Addr) (jk6 : Nat) (jx7 : Option Addr) (jk7 : Nat) (jx8 : Option Addr) (jk8 : Nat) (jx9 : Option Addr) (jk9 : Nat) (jx10 : Option Addr) (jk10 : Nat) (jx11 : Option Addr) (jk11 : Nat) (jx12 : Option Addr) (jk12 : Nat) (jx13 : Option Addr) (jk13 : Nat) (jx14 : Option Addr) (jk14 : Nat) (jx15 : Option Addr) (jk15 : Nat) (jx16 : Option Addr) (jk16 : Nat) (jx17 : Option Addr) (jk17 : Nat) (jx18 : Option Addr) (jk18 : Nat) (jx19 : Option Addr) (jk19 : Nat) (jx20 : Option Addr) (jk20 : Nat) (jx21 : Option Addr) (jk21 : Nat) (JB : Nat) => ([ownTrI (.agg #[.int .i64 r0.S.S.ob, .slice jx1 r0.S.S.s.length jk1, .slice jx2 r0.S.S.t.length jk2, .slice jx3 r0.S.S.e.length jk3, .slice jx4 r0.S.S.m.length jk4, .int .i64 r0.S.T.ob, .slice jx5 r0.S.T.s.length jk5, .slice jx6 r0.S.T.t.length jk6, .slice jx7 r0.S.T.e.length jk7, .slice jx8 r0.S.T.m.length jk8, .slice jx9 r0.S.o.length jk9, .slice jx10 r0.S.a.length jk10, .int .i64 r0.T.S.ob, .slice jx11 r0.T.S.s.length jk11, .slice jx12 r0.T.S.t.length jk12, .slice jx13 r0.T.S.e.length jk13, .slice jx14 r0.T.S.m.length jk14, .int .i64 r0.T.T.ob, .slice jx15 r0.T.T.s.length jk15, .slice jx16 r0.T.T.t.length jk16, .slice jx17 r0.T.T.e.length jk17, .slice jx18 r0.T.T.m.length jk18, .slice jx19 r0.T.o.length jk19, .slice jx20 r0.T.a.length jk20, .slice jx21 r0.c.length jk21]) r0, bxI JB 36 [.int .i64 r0.S.S.ob, .slice jx1 r0.S.S.s.length jk1, .slice jx2 r0.S.S.t.length jk2, .slice jx3 r0.S.S.e.length jk3, .slice jx4 r0.S.S.m.length jk4, .int .i64 r0.S.T.ob, .slice jx5 r0.S.T.s.length jk5, .slice jx6 r0.S.T.t.length jk6, .slice jx7 r0.S.T.e.length jk7, .slice jx8 r0.S.T.m.length jk8, .slice jx9 r0.S.o.length jk9, .slice jx10 r0.S.a.length jk10, .int .i64 r0.T.S.ob, .slice jx11 r0.T.S.s.length jk11, .slice jx12 r0.T.S.t.length jk12, .slice jx13 r0.T.S.e.length jk13, .slice jx14 r0.T.S.m.length jk14, .int .i64 r0.T.T.ob, .slice jx15 r0.T.T.s.length jk15, .slice jx16 r0.T.T.t.length jk16, .slice jx17 r0.T.T.e.length jk17, .slice jx18 r0.T.T.m.length jk18, .slice jx19 r0.T.o.length jk19, .slice jx20 r0.T.a.length jk20, .slice jx21 r0.c.length jk21]] : List Itm)) s.1 s.2.1 s.2.2.1 s.2.2.2.1 s.2.2.2.2.1 s.2.2.2.2.2.1 s.2.2.2.2.2.2.1 s.2.2.2.2.2.2.2.1 s.2.2.2.2.2.2.2.2.1 s.2.2.2.2.2.2.2.2.2.1 s.2.2.2.2.2.2.2.2.2.2.1 s.2.2.2.2.2.2.2.2.2.2.2.1 s.2.2.2.2.2.2.2.2.2.2.2.2.1 s.2.2.2.2.2.2.2.2.2.2.2.2.2.1 s.2.2.2.2.2.2.2.2.2.2.2.2.2.2.1 s.2.2.2.2.2.2.2.2.2.2.2.2.2.2.2.1 s.2.2.2.2.2.2.2.2.2.2.2.2.2.2.2.2.1 s.2.2.2.2.2.2.2.2.2.2.2.2.2.2.2.2.2.1 s.2.2.2.2.2.2.2.2.2.2.2.2.2.2.2.2.2.2.1 s.2.2.2.2.2.2.2.2.2.2.2.2.2.2.2.2.2.2.2.1 s.2.2.2.2.2.2.2.2.2.2.2.2.2.2.2.2.2.2.2.2.1 s.2.2.2.2.2.2.2.2.2.2.2.2.2.2.2.2.2.2.2.2.2.1 s.2.2.2.2.2.2.2.2.2.2.2.2.2.2.2.2.2.2.2.2.2.2.1 s.2.2.2.2.2.2.2.2.2.2.2.2.2.2.2.2.2.2.2.2.2.2.2.1 s.2.2.2.2.2.2.2.2.2.2.2.2.2.2.2.2.2.2.2.2.2.2.2.2.1 s.2.2.2.2.2.2.2.2.2.2.2.2.2.2.2.2.2.2.2.2.2.2.2.2.2.1 s.2.2.2.2.2.2.2.2.2.2.2.2.2.2.2.2.2.2.2.2.2.2.2.2.2.2.1 s.2.2.2.2.2.2.2.2.2.2.2.2.2.2.2.2.2.2.2.2.2.2.2.2.2.2.2.1 s.2.2.2.2.2.2.2.2.2.2.2.2.2.2.2.2.2.2.2.2.2.2.2.2.2.2.2.2.1 s.2.2.2.2.2.2.2.2.2.2.2.2.2.2.2.2.2.2.2.2.2.2.2.2.2.2.2.2.2.1 s.2.2.2.2.2.2.2.2.2.2.2.2.2.2.2.2.2.2.2.2.2.2.2.2.2.2.2.2.2.2.1 s.2.2.2.2.2.2.2.2.2.2.2.2.2.2.2.2.2.2.2.2.2.2.2.2.2.2.2.2.2.2.2.1 s.2.2.2.2.2.2.2.2.2.2.2.2.2.2.2.2.2.2.2.2.2.2.2.2.2.2.2.2.2.2.2.2.1 s.2.2.2.2.2.2.2.2.2.2.2.2.2.2.2.2.2.2.2.2.2.2.2.2.2.2.2.2.2.2.2.2.2.1 s.2.2.2.2.2.2.2.2.2.2.2.2.2.2.2.2.2.2.2.2.2.2.2.2.2.2.2.2.2.2.2.2.2.2.1 s.2.2.2.2.2.2.2.2.2.2.2.2.2.2.2.2.2.2.2.2.2.2.2.2.2.2.2.2.2.2.2.2.2.2.2.1 s.2.2.2.2.2.2.2.2.2.2.2.2.2.2.2.2.2.2.2.2.2.2.2.2.2.2.2.2.2.2.2.2.2.2.2.2.1 s.2.2.2.2.2.2.2.2.2.2.2.2.2.2.2.2.2.2.2.2.2.2.2.2.2.2.2.2.2.2.2.2.2.2.2.2.2.1 s.2.2.2.2.2.2.2.2.2.2.2.2.2.2.2.2.2.2.2.2.2.2.2.2.2.2.2.2.2.2.2.2.2.2.2.2.2.2.1 s.2.2.2.2.2.2.2.2.2.2.2.2.2.2.2.2.2.2.2.2.2.2.2.2.2.2.2.2.2.2.2.2.2.2.2.2.2.2.2.1 s.2.2.2.2.2.2.2.2.2.2.2.2.2.2.2.2.2.2.2.2.2.2.2.2.2.2.2.2.2.2.2.2.2.2.2.2.2.2.2.2.1 s.2.2.2.2.2.2.2.2.2.2.2.2.2.2.2.2.2.2.2.2.2.2.2.2.2.2.2.2.2.2.2.2.2.2.2.2.2.2.2.2.2.1 s.2.2.2.2.2.2.2.2.2.2.2.2.2.2.2.2.2.2.2.2.2.2.2.2.2.2.2.2.2.2.2.2.2.2.2.2.2.2.2.2.2.2) (sub_cons rfl (sub_cons rfl (sub_cons rfl (sub_cons rfl (sub_cons rfl (sub_cons rfl (sub_cons rfl (sub_cons rfl sub_nil)))))))) ?_ (fun HJ14 => ?_)
      · rintro ⟨jx1, jk1, jx2, jk2, jx3, jk3, jx4, jk4, jx5, jk5, jx6, jk6, jx7, jk7, jx8, jk8, jx9, jk9, jx10, jk10, jx11, jk11, jx12, jk12, jx13, jk13, jx14, jk14, jx15, jk15, jx16, jk16, jx17, jk17, jx18, jk18, jx19, jk19, jx20, jk20, jx21, jk21, JB⟩
        simp only [updL, List.foldl_cons, List.foldl_nil, List.set_cons_succ, List.set_cons_zero, List.cons_append, List.nil_append]
        refine gk_then (hK13 _ _ ?_)
        refine gc_seq fun K15 hK15 => ?_
        refine gc_region ?_
        refine g_v (.free rfl) rfl rfl (qt_loadS (n := 0) rfl rfl Try.underlying29 rfl (by kernel_rfl) rfl) ?_
        refine g_op (.free rfl) fun K17 hK17 => ?_
        refine go_callTr rfl rfl rfl Try.func15 rfl (by decide) rfl (fun w M => toTr_any w _ _ (mem_rdTr M R0)) ?_
        intro tx1_16 tk1_16 tx2_16 tk2_16 tx3_16 tk3_16 tx4_16 tk4_16 tx5_16 tk5_16 tx6_16 tk6_16 tx7_16 tk7_16 tx8_16 tk8_16 tx9_16 tk9_16 tx10_16 tk10_16 tx11_16 tk11_16 tx12_16 tk12_16 tx13_16 tk13_16 tx14_16 tk14_16 tx15_16 tk15_16 tx16_16 tk16_16 tx17_16 tk17_16 tx18_16 tk18_16 tx19_16 tk19_16 tx20_16 tk20_16 tx21_16 tk21_16
        refine hK17 _ _ ?_
        refine g_op (.free rfl) fun K19 hK19 => ?_
        refine go_alloc (z := (.agg #[.int .i64 0, .slice none 0 0, .slice none 0 0, .slice none 0 0, .slice none 0 0, .int .i64 0, .slice none 0 0, .slice none 0 0, .slice none 0 0, .slice none 0 0, .slice none 0 0, .slice none 0 0, .int .i64 0, .slice none 0 0, .slice none 0 0, .slice none 0 0, .slice none 0 0, .int .i64 0, .slice none 0 0, .slice none 0 0, .slice none 0 0, .slice none 0 0, .slice none 0 0, .slice none 0 0, .slice none 0 0])) (cs := [.int .i64 0, .slice none 0 0, .slice none 0 0, .slice none 0 0, .slice none 0 0, .int .i64 0, .slice none 0 0, .slice none 0 0, .slice none 0 0, .slice none 0 0, .slice none 0 0, .slice none 0 0, .int .i64 0, .slice none 0 0, .slice none 0 0, .slice none 0 0, .slice none 0 0, .int .i64 0, .slice none 0 0, .slice none 0 0, .slice none 0 0, .slice none 0 0, .slice none 0 0, .slice none 0 0, .slice none 0 0]) rfl rfl rfl (fun w => by kernel_rfl) rfl ?_
        intro B18
        refine hK19 _ _ ?_
        refine g_op (.free rfl) fun K20 hK20 => ?_
        refine go_storeS (n := 5) rfl rfl rfl rfl (by kernel_rfl) rfl rfl rfl ?_
        refine hK20 _ _ ?_
        refine g_nil ?_
        refine gk_then (hK15 _ _ ?_)
        refine gc_seq fun K21 hK21 => ?_
        refine gc_region ?_
        refine g_v (.free rfl) rfl rfl (qt_loadS (n := 1) rfl rfl Try.underlying29 rfl (by kernel_rfl) rfl) ?_
        refine g_op (.free rfl) fun K23 hK23 => ?_
        refine go_callTr rfl rfl rfl Try.func15 rfl (by decide) rfl (fun w M => toTr_any w _ _ (mem_rdTr M R1)) ?_
        intro tx1_22 tk1_22 tx2_22 tk2_22 tx3_22 tk3_22 tx4_22 tk4_22 tx5_22 tk5_22 tx6_22 tk6_22 tx7_22 tk7_22 tx8_22 tk8_22 tx9_22 tk9_22 tx10_22 tk10_22 tx11_22 tk11_22 tx12_22 tk12_22 tx13_22 tk13_22 tx14_22 tk14_22 tx15_22 tk15_22 tx16_22 tk16_22 tx17_22 tk17_22 tx18_22 tk18_22 tx19_22 tk19_22 tx20_22 tk20_22 tx21_22 tk21_22
        refine hK23 _ _ ?_
        refine g_op (.free rfl) fun K25 hK25 => ?_
        refine go_alloc (z := (.agg #[.int .i64 0, .slice none 0 0, .slice none 0 0, .slice none 0 0, .slice none 0 0, .int .i64 0, .slice none 0 0, .slice none 0 0, .slice none 0 0, .slice none 0 0, .slice none 0 0, .slice none 0 0, .int .i64 0, .slice none 0 0, .slice none 0 0, .slice none 0 0, .slice none 0 0, .int .i64 0, .slice none 0 0, .slice none 0 0, .slice none 0 0, .slice none 0 0, .slice none 0 0, .slice none 0 0, .slice none 0 0])) (cs := [.int .i64 0, .slice none 0 0, .slice none 0 0, .slice none 0 0, .slice none 0 0, .int .i64 0, .slice none 0 0, .slice none 0 0, .slice none 0 0, .slice none 0 0, .slice none 0 0, .slice none 0 0, .int .i64 0, .slice none 0 0, .slice none 0 0, .slice none 0 0, .slice none 0 0, .int .i64 0, .slice none 0 0, .slice none 0 0, .slice none 0 0, .slice none 0 0, .slice none 0 0, .slice none 0 0, .slice none 0 0]) rfl rfl rfl (fun w => by kernel_rfl) rfl ?_
        intro B24
        refine hK25 _ _ ?_
        refine g_op (.free rfl) fun K26 hK26 => ?_
        refine go_storeS (n := 7) rfl rfl rfl rfl (by kernel_rfl) rfl rfl rfl ?_
        refine hK26 _ _ ?_
        refine g_nil ?_
        refine gk_then (hK21 _ _ ?_)
        refine gc_seq fun K27 hK27 => ?_
        refine gc_region ?_
        refine g_v (.free rfl) rfl rfl (qt_loadS (n := 5) rfl rfl Try.underlying36 rfl (by kernel_rfl) rfl) ?_
        refine g_v (.free rfl) rfl rfl (qt_loadS (n := 7) rfl rfl Try.underlying36 rfl (by kernel_rfl) rfl) ?_
        refine g_op (.free rfl) fun K29 hK29 => ?_
        refine go_callTrI rfl rfl rfl Try.func35 rfl (by decide) rfl (fun w M => himpl w _ _ ((mem_ownTr (n := 4) M rfl).rd) ((mem_ownTr (n := 6) M rfl).rd)) ?_
        intro tx1_28 tk1_28 tx2_28 tk2_28 tx3_28 tk3_28 tx4_28 tk4_28 tx5_28 tk5_28 tx6_28 tk6_28 tx7_28 tk7_28 tx8_28 tk8_28 tx9_28 tk9_28 tx10_28 tk10_28 tx11_28 tk11_28 tx12_28 tk12_28 tx13_28 tk13_28 tx14_28 tk14_28 tx15_28 tk15_28 tx16_28 tk16_28 tx17_28 tk17_28 tx18_28 tk18_28 tx19_28 tk19_28 tx20_28 tk20_28 tx21_28 tk21_28
        refine hK29 _ _ ?_
        refine g_v (.free rfl) rfl rfl (qt_move rfl rfl) ?_
        refine g_v (.free rfl) rfl rfl (qt_extract rfl rfl rfl) ?_
        refine g_v (.free rfl) rfl rfl (qt_extract rfl rfl rfl) ?_
        refine g_op (.free rfl) fun K31 hK31 => ?_
        refine go_alloc (z := (.agg #[.int .i64 0, .slice none 0 0, .slice none 0 0, .slice none 0 0, .slice none 0 0, .int .i64 0, .slice none 0 0, .slice none 0 0, .slice none 0 0, .slice none 0 0, .slice none 0 0, .slice none 0 0, .int .i64 0, .slice none 0 0, .slice none 0 0, .slice none 0 0, .slice none 0 0, .int .i64 0, .slice none 0 0, .slice none 0 0, .slice none 0 0, .slice none 0 0, .slice none 0 0, .slice none 0 0, .slice none 0 0])) (cs := [.int .i64 0, .slice none 0 0, .slice none 0 0, .slice none 0 0, .slice none 0 0, .int .i64 0, .slice none 0 0, .slice none 0 0, .slice none 0 0, .slice none 0 0, .slice none 0 0, .slice none 0 0, .int .i64 0, .slice none 0 0, .slice none 0 0, .slice none 0 0, .slice none 0 0, .int .i64 0, .slice none 0 0, .slice none 0 0, .slice none 0 0, .slice none 0 0, .slice none 0 0, .slice none 0 0, .slice none 0 0]) rfl rfl rfl (fun w => by kernel_rfl) rfl ?_
        intro B30
        refine hK31 _ _ ?_
        refine g_op (.free rfl) fun K32 hK32 => ?_
        refine go_storeS (n := 9) rfl rfl rfl rfl (by kernel_rfl) rfl rfl rfl ?_
        refine hK32 _ _ ?_
        refine g_v (.free rfl) rfl rfl (qt_assign rfl rfl) ?_
        refine g_nil ?_
        refine gk_then (hK27 _ _ ?_)
        refine gc_seq fun K33 hK33 => ?_
        refine gc_seq fun K34 hK34 => ?_
        refine gc_region ?_
        refine g_v (.free rfl) rfl rfl (qt_loadS (n := 9) rfl rfl Try.underlying36 rfl (by kernel_rfl) rfl) ?_
        refine g_v (.free rfl) rfl rfl (qt_loadS (n := 3) rfl rfl Try.underlying36 rfl (by kernel_rfl) rfl) ?_
        refine g_q (.free rfl) rfl rfl (qt_call rfl Try.func17 rfl (by decide) rfl (fun w M => eqTr_refl_any w _ _ _ ((mem_ownTr (n := 8) M rfl).rd) ((mem_ownTr (n := 2) M rfl).rd))) ?_
        refine g_v (.free rfl) rfl rfl (qt_not rfl rfl) ?_
        refine g_v (.free rfl) rfl rfl (qt_move rfl rfl) ?_
        refine g_v (.held _ _ _ rfl rfl rfl) rfl rfl (qt_move rfl rfl) ?_
        refine g_v (.held _ _ _ rfl rfl rfl) rfl rfl (qt_move rfl rfl) ?_
        refine g_v (.held _ _ _ rfl rfl rfl) rfl rfl (qt_neq_f rfl rfl rfl (fun h => h rfl)) ?_
        refine g_v (.free rfl) rfl rfl (qt_pick_f rfl rfl rfl) ?_
        refine g_nil ?_
        refine gk_then (hK34 _ _ ?_)
        refine gc_cond_f rfl ?_
        refine gc_skip ?_
        refine gk_then (hK33 _ _ ?_)
        refine gc_seq fun K35 hK35 => ?_
        refine gc_seq fun K36 hK36 => ?_
        try simp only [List.nil_append, List.cons_append, List.append_assoc, List.set_cons_succ, List.set_cons_zero]
        refine ga_start _ (fun w M => M) ?_
        refine ga_v 0 rfl (by kernel_rfl) (by kernel_rfl) (by kernel_rfl) (.free rfl) rfl rfl (qt_loadS (n := 5) rfl rfl Try.underlying36 rfl (by kernel_rfl) rfl) (fun _ _ _ h => h) ?_
        refine ga_v 1 rfl (by kernel_rfl) (by kernel_rfl) (by kernel_rfl) (.free rfl) rfl rfl (qt_loadS (n := 0) rfl rfl Try.underlying29 rfl (by kernel_rfl) rfl) (fun _ _ _ h => h) ?_
        refine ga_op 2 (by kernel_rfl) rfl (.free rfl) fun K38 hK38 => ?_
        refine go_callTr rfl rfl rfl Try.func15 rfl (by decide) rfl (fun w M => toTr_any w _ _ (mem_rdTr M R0)) ?_
        intro tx1_37 tk1_37 tx2_37 tk2_37 tx3_37 tk3_37 tx4_37 tk4_37 tx5_37 tk5_37 tx6_37 tk6_37 tx7_37 tk7_37 tx8_37 tk8_37 tx9_37 tk9_37 tx10_37 tk10_37 tx11_37 tk11_37 tx12_37 tk12_37 tx13_37 tk13_37 tx14_37 tk14_37 tx15_37 tk15_37 tx16_37 tk16_37 tx17_37 tk17_37 tx18_37 tk18_37 tx19_37 tk19_37 tx20_37 tk20_37 tx21_37 tk21_37
        refine hK38 _ _ (fun w M => (mem_take 10 M :)) ?_
        refine ga_op 3 (by kernel_rfl) rfl (.free rfl) fun K39 hK39 => ?_
        refine go_q rfl rfl (qt_call rfl Try.func17 rfl (by decide) rfl (fun w M => eqTr_refl_any w _ _ _ ((mem_ownTr (n := 4) M rfl).rd) ((mem_ownTr (n := 10) M rfl).rd))) ?_
        refine hK39 _ _ (fun w M => (mem_take 10 M :)) ?_
        refine ga_v 4 rfl (by kernel_rfl) (by kernel_rfl) (by kernel_rfl) (.free rfl) rfl rfl (qt_not rfl rfl) (fun _ _ _ h => h) ?_
        refine ga_done (by kernel_rfl) ?_
        refine gk_then (hK36 _ _ ?_)
        refine gc_cond_f rfl ?_
        refine gc_skip ?_
        refine gk_then (hK35 _ _ ?_)
        refine gc_seq fun K40 hK40 => ?_
        refine gc_seq fun K41 hK41 => ?_
        try simp only [List.nil_append, List.cons_append, List.append_assoc, List.set_cons_succ, List.set_cons_zero]
        refine ga_start _ (fun w M => M) ?_
        refine ga_v 0 rfl (by kernel_rfl) (by kernel_rfl) (by kernel_rfl) (.free rfl) rfl rfl (qt_loadS (n := 7) rfl rfl Try.underlying36 rfl (by kernel_rfl) rfl) (fun _ _ _ h => h) ?_
        refine ga_v 1 rfl (by kernel_rfl) (by kernel_rfl) (by kernel_rfl) (.free rfl) rfl rfl (qt_loadS (n := 1) rfl rfl Try.underlying29 rfl (by kernel_rfl) rfl) (fun _ _ _ h => h) ?_
        refine ga_op 2 (by kernel_rfl) rfl (.free rfl) fun K43 hK43 => ?_
        refine go_callTr rfl rfl rfl Try.func15 rfl (by decide) rfl (fun w M => toTr_any w _ _ (mem_rdTr M R1)) ?_
        intro tx1_42 tk1_42 tx2_42 tk2_42 tx3_42 tk3_42 tx4_42 tk4_42 tx5_42 tk5_42 tx6_42 tk6_42 tx7_42 tk7_42 tx8_42 tk8_42 tx9_42 tk9_42 tx10_42 tk10_42 tx11_42 tk11_42 tx12_42 tk12_42 tx13_42 tk13_42 tx14_42 tk14_42 tx15_42 tk15_42 tx16_42 tk16_42 tx17_42 tk17_42 tx18_42 tk18_42 tx19_42 tk19_42 tx20_42 tk20_42 tx21_42 tk21_42
        refine hK43 _ _ (fun w M => (mem_take 11 M :)) ?_
        refine ga_op 3 (by kernel_rfl) rfl (.free rfl) fun K44 hK44 => ?_
        refine go_q rfl rfl (qt_call rfl Try.func17 rfl (by decide) rfl (fun w M => eqTr_refl_any w _ _ _ ((mem_ownTr (n := 6) M rfl).rd) ((mem_ownTr (n := 11) M rfl).rd))) ?_
        refine hK44 _ _ (fun w M => (mem_take 11 M :)) ?_
        refine ga_v 4 rfl (by kernel_rfl) (by kernel_rfl) (by kernel_rfl) (.free rfl) rfl rfl (qt_not rfl rfl) (fun _ _ _ h => h) ?_
        refine ga_done (by kernel_rfl) ?_
        refine gk_then (hK41 _ _ ?_)
        refine gc_cond_f rfl ?_
        refine gc_skip ?_
        refine gk_then (hK40 _ _ ?_)
        refine gc_seq fun K45 hK45 => ?_
        refine gc_region ?_
        refine g_v (.free rfl) rfl rfl (qt_assign rfl rfl) ?_
        refine g_nil ?_
        refine gk_then (hK45 _ _ ?_)
        refine gc_seq fun K46 hK46 => ?_
        refine gc_region ?_
        refine g_v (.free rfl) rfl rfl (qt_loadS (n := 5) rfl rfl Try.underlying36 rfl (by kernel_rfl) rfl) ?_
        refine g_v (.free rfl) rfl rfl (qt_move rfl rfl) ?_
        refine g_op (.free rfl) fun K47 hK47 => ?_
        refine go_one (n := 4) rfl rfl rfl Try.func26 rfl (by decide) rfl rfl (fun R w M => markTr1_any _ w R _ _ _ _ _ _ _ _ _ _ _ _ _ _ _ _ _ _ _ _ _ _ _ (by omega) (by omega) M) ?_
        refine hK47 _ _ ?_
        refine g_v (.free rfl) rfl rfl (qt_assign rfl rfl) ?_
        refine g_nil ?_
        refine gk_then (hK46 _ _ ?_)
        refine gc_seq fun K48 hK48 => ?_
        refine gc_region ?_
        refine g_v (.free rfl) rfl rfl (qt_loadS (n := 7) rfl rfl Try.underlying36 rfl (by kernel_rfl) rfl) ?_
        refine g_v (.free rfl) rfl rfl (qt_move rfl rfl) ?_
        refine g_op (.free rfl) fun K49 hK49 => ?_
        refine go_one (n := 6) rfl rfl rfl Try.func26 rfl (by decide) rfl rfl (fun R w M => markTr1_any _ w R _ _ _ _ _ _ _ _ _ _ _ _ _ _ _ _ _ _ _ _ _ _ _ (by omega) (by omega) M) ?_
        refine hK49 _ _ ?_
        refine g_v (.free rfl) rfl rfl (qt_assign rfl rfl) ?_
        refine g_nil ?_
        refine gk_then (hK48 _ _ ?_)
        refine gc_seq fun K50 hK50 => ?_
        refine gc_seq fun K51 hK51 => ?_
        refine gc_region ?_
        refine g_v (.free rfl) rfl rfl (qt_move rfl rfl) ?_
        refine g_v (.free rfl) rfl rfl (qt_lss rfl rfl rfl) ?_
        refine g_splitv (.free rfl) rfl rfl (qt_move rfl rfl) (fun hs21_2 => ?_) (fun hs21_2 => ?_)
        · try simp only [decide_eq_true_eq, decide_eq_false_iff_not, Bool.not_eq_true', Bool.not_eq_false', Bool.not_eq_eq_eq_not, Bool.not_true, Bool.not_false, ne_eq, Decidable.not_not, Classical.not_not] at hs21_2
          first | (exfalso; omega) | exact absurd rfl hs21_2 | (simp at hs21_2)
        · try simp only [decide_eq_true_eq, decide_eq_false_iff_not, Bool.not_eq_true', Bool.not_eq_false', Bool.not_eq_eq_eq_not, Bool.not_true, Bool.not_false, ne_eq, Decidable.not_not, Classical.not_not] at hs21_2
          refine g_v (.held _ _ _ rfl rfl rfl) rfl rfl (qt_loadS (n := 9) rfl rfl Try.underlying36 rfl (by kernel_rfl) rfl) ?_
          refine g_v (.held _ _ _ rfl rfl rfl) rfl rfl (qt_loadS (n := 3) rfl rfl Try.underlying36 rfl (by kernel_rfl) rfl) ?_
          refine g_q (.held _ _ _ rfl rfl rfl) rfl rfl (qt_call rfl Try.func17 rfl (by decide) rfl (fun w M => eqTr_refl_any w _ _ _ ((mem_ownTr (n := 8) M rfl).rd) ((mem_ownTr (n := 2) M rfl).rd))) ?_
          refine g_v (.held _ _ _ rfl rfl rfl) rfl rfl (qt_not rfl rfl) ?_
          refine g_v (.free rfl) rfl rfl (qt_pick_f rfl rfl rfl) ?_
          refine g_v (.free rfl) rfl rfl (qt_move rfl rfl) ?_
          refine g_v (.held _ _ _ rfl rfl rfl) rfl rfl (qt_move rfl rfl) ?_
          refine g_v (.held _ _ _ rfl rfl rfl) rfl rfl (qt_move rfl rfl) ?_
          refine g_v (.held _ _ _ rfl rfl rfl) rfl rfl (qt_neq_f rfl rfl rfl (fun h => h rfl)) ?_
          refine g_v (.free rfl) rfl rfl (qt_pick_f rfl rfl rfl) ?_
          refine g_nil ?_
          refine gk_then (hK51 _ _ ?_)
          refine gc_cond_f rfl ?_
          refine gc_skip ?_
          refine gk_then (hK50 _ _ ?_)
          refine gc_seq fun K52 hK52 => ?_
          refine gc_region ?_
          refine g_v (.free rfl) rfl rfl (qt_assign rfl rfl) ?_
          refine g_nil ?_
          refine gk_then (hK52 _ _ ?_)
          refine gc_seq fun K53 hK53 => ?_
          refine gc_region ?_
          refine g_v (.free rfl) rfl rfl (qt_loadS (n := 9) rfl rfl Try.underlying36 rfl (by kernel_rfl) rfl) ?_
          refine g_v (.free rfl) rfl rfl (qt_move rfl rfl) ?_
          refine g_op (.free rfl) fun K54 hK54 => ?_
          refine go_one (n := 8) rfl rfl rfl Try.func26 rfl (by decide) rfl rfl (fun R w M => markTr1_any _ w R _ _ _ _ _ _ _ _ _ _ _ _ _ _ _ _ _ _ _ _ _ _ _ (by omega) (by omega) M) ?_
          refine hK54 _ _ ?_
          refine g_v (.free rfl) rfl rfl (qt_assign rfl rfl) ?_
          refine g_nil ?_
          refine gk_then (hK53 _ _ ?_)
          refine gc_seq fun K55 hK55 => ?_
          refine gc_region ?_
          refine g_v (.free rfl) rfl rfl (qt_assign rfl rfl) ?_
          refine g_nil ?_
          refine gk_then (hK55 _ _ ?_)
          refine gc_seq fun K56 hK56 => ?_
          refine gc_region ?_
          refine g_v (.free rfl) rfl rfl (qt_loadS (n := 9) rfl rfl Try.underlying36 rfl (by kernel_rfl) rfl) ?_
          refine g_v (.free rfl) rfl rfl (qt_move rfl rfl) ?_
          refine g_q (.free rfl) rfl rfl (qt_call rfl Try.func27 rfl (by decide) rfl (fun w M => heldTr_any w _ _ _ ((mem_ownTr (n := 8) M rfl).rd) (by first | assumption | omega) (by first | assumption | omega))) ?_
          refine g_v (.free rfl) rfl rfl (qt_assign rfl rfl) ?_
          refine g_nil ?_
          refine gk_then (hK56 _ _ ?_)
          refine gc_seq fun K57 hK57 => ?_
          refine gc_seq fun K58 hK58 => ?_
          refine gc_region ?_
          refine g_v (.free rfl) rfl rfl (qt_move rfl rfl) ?_
          refine g_v (.free rfl) rfl rfl (qt_lss rfl rfl rfl) ?_
          refine g_nil ?_
          refine gk_then (hK58 _ _ ?_)
          refine gc_cond rfl (fun hc2 => ?_) (fun hc2 => ?_)
          · try simp only [decide_eq_true_eq, decide_eq_false_iff_not, Bool.not_eq_true', Bool.not_eq_false', Bool.not_eq_eq_eq_not, Bool.not_true, Bool.not_false, ne_eq, Decidable.not_not, Classical.not_not] at hc2
            first | (exfalso; omega) | exact absurd rfl hc2 | (simp at hc2)
          · try simp only [decide_eq_true_eq, decide_eq_false_iff_not, Bool.not_eq_true', Bool.not_eq_false', Bool.not_eq_eq_eq_not, Bool.not_true, Bool.not_false, ne_eq, Decidable.not_not, Classical.not_not] at hc2
            refine gc_skip ?_
            refine gk_then (hK57 _ _ ?_)
            refine gc_seq fun K59 hK59 => ?_
            refine gc_seq fun K60 hK60 => ?_
            refine gc_region ?_
            refine g_v (.free rfl) rfl rfl (qt_move rfl rfl) ?_
            refine g_v (.free rfl) rfl rfl (qt_move rfl rfl) ?_
            refine g_v (.free rfl) rfl rfl (qt_neq rfl rfl rfl) ?_
            refine g_nil ?_
            refine gk_then (hK60 _ _ ?_)
            refine gc_cond rfl (fun hc3 => ?_) (fun hc3 => ?_)
            · try simp only [decide_eq_true_eq, decide_eq_false_iff_not, Bool.not_eq_true', Bool.not_eq_false', Bool.not_eq_eq_eq_not, Bool.not_true, Bool.not_false, ne_eq, Decidable.not_not, Classical.not_not] at hc3
              first | (exfalso; omega) | exact absurd rfl hc3 | (simp at hc3)
            · try simp only [decide_eq_true_eq, decide_eq_false_iff_not, Bool.not_eq_true', Bool.not_eq_false', Bool.not_eq_eq_eq_not, Bool.not_true, Bool.not_false, ne_eq, Decidable.not_not, Classical.not_not] at hc3
              refine gc_skip ?_
              refine gk_then (hK59 _ _ ?_)
              refine gc_seq fun K61 hK61 => ?_
              try simp only [List.nil_append, List.cons_append, List.append_assoc, List.set_cons_succ, List.set_cons_zero]
              refine gc_cut ([(0, _), (1, _), (2, _), (3, _), (4, _), (5, _), (6, _), (7, _), (8, _), (9, _), (10, _), (11, _), (12, _), (13, _), (14, _), (21, _), (26, _), (53, _), (58, _), (63, _), (82, _), (90, _), (93, _)] : Env) (fun s : (Option Addr) × Nat × (Option Addr) × Nat × (Option Addr) × Nat × (Option Addr) × Nat × (Option Addr) × Nat × (Option Addr) × Nat × (Option Addr) × Nat × (Option Addr) × Nat × (Option Addr) × Nat × (Option Addr) × Nat × (Option Addr) × Nat × (Option Addr) × Nat × (Option Addr) × Nat × (Option Addr) × Nat × (Option Addr) × Nat × (Option Addr) × Nat × (Option Addr) × Nat × (Option Addr) × Nat × (Option Addr) × Nat × (Option Addr) × Nat × (Option Addr) × Nat × Nat => (fun (jx1 : Option Addr) (jk1 : Nat) (jx2 : Option Addr) (jk2 : Nat) (jx3 : Option Addr) (jk3 : Nat) (jx4 : Option Addr) (jk4 : Nat) (jx5 : Option Addr) (jk5 : Nat) (jx6 : Option Addr) (jk6 : Nat) (jx7 : Option Addr) (jk7 : Nat) (jx8 : Option Addr) (jk8 : Nat) (jx9 : Option Addr) (jk9 : Nat) (jx10 : Option Addr) (jk10 : Nat) (jx11 : Option Addr) (jk11 : Nat) (jx12 : Option Addr) (jk12 : Nat) (jx13 : Option Addr) (jk13 : Nat) (jx14 : Option Addr) (jk14 : Nat) (jx15 : Option Addr) (jk15 : Nat) (jx16 : Option Addr) (jk16 : Nat) (jx17 : Option Addr) (jk17 : Nat) (jx18 : Option Addr) (jk18 : Nat) (jx19 : Option Addr) (jk19 : Nat) (jx20 : Option Addr) (jk20 : Nat) (jx21 : Option Addr) (jk21 : Nat) (JB : Nat) => ([(15, .pointer (some ⟨JB, 0, none⟩)), (16, .int .i64 r1)] : Env)) s.1 s.2.1 s.2.2.1 s.2.2.2.1 s.2.2.2.2.1 s.2.2.2.2.2.1 s.2.2.2.2.2.2.1 s.2.2.2.2.2.2.2.1 s.2.2.2.2.2.2.2.2.1 s.2.2.2.2.2.2.2.2.2.1 s.2.2.2.2.2.2.2.2.2.2.1 s.2.2.2.2.2.2.2.2.2.2.2.1 s.2.2.2.2.2.2.2.2.2.2.2.2.1 s.2.2.2.2.2.2.2.2.2.2.2.2.2.1 s.2.2.2.2.2.2.2.2.2.2.2.2.2.2.1 s.2.2.2.2.2.2.2.2.2.2.2.2.2.2.2.1 s.2.2.2.2.2.2.2.2.2.2.2.2.2.2.2.2.1 s.2.2.2.2.2.2.2.2.2.2.2.2.2.2.2.2.2.1 s.2.2.2.2.2.2.2.2.2.2.2.2.2.2.2.2.2.2.1 s.2.2.2.2.2.2.2.2.2.2.2.2.2.2.2.2.2.2.2.1 s.2.2.2.2.2.2.2.2.2.2.2.2.2.2.2.2.2.2.2.2.1 s.2.2.2.2.2.2.2.2.2.2.2.2.2.2.2.2.2.2.2.2.2.1 s.2.2.2.2.2.2.2.2.2.2.2.2.2.2.2.2.2.2.2.2.2.2.1 s.2.2.2.2.2.2.2.2.2.2.2.2.2.2.2.2.2.2.2.2.2.2.2.1 s.2.2.2.2.2.2.2.2.2.2.2.2.2.2.2.2.2.2.2.2.2.2.2.2.1 s.2.2.2.2.2.2.2.2.2.2.2.2.2.2.2.2.2.2.2.2.2.2.2.2.2.1 s.2.2.2.2.2.2.2.2.2.2.2.2.2.2.2.2.2.2.2.2.2.2.2.2.2.2.1 s.2.2.2.2.2.2.2.2.2.2.2.2.2.2.2.2.2.2.2.2.2.2.2.2.2.2.2.1 s.2.2.2.2.2.2.2.2.2.2.2.2.2.2.2.2.2.2.2.2.2.2.2.2.2.2.2.2.1 s.2.2.2.2.2.2.2.2.2.2.2.2.2.2.2.2.2.2.2.2.2.2.2.2.2.2.2.2.2.1 s.2.2.2.2.2.2.2.2.2.2.2.2.2.2.2.2.2.2.2.2.2.2.2.2.2.2.2.2.2.2.1 s.2.2.2.2.2.2.2.2.2.2.2.2.2.2.2.2.2.2.2.2.2.2.2.2.2.2.2.2.2.2.2.1 s.2.2.2.2.2.2.2.2.2.2.2.2.2.2.2.2.2.2.2.2.2.2.2.2.2.2.2.2.2.2.2.2.1 s.2.2.2.2.2.2.2.2.2.2.2.2.2.2.2.2.2.2.2.2.2.2.2.2.2.2.2.2.2.2.2.2.2.1 s.2.2.2.2.2.2.2.2.2.2.2.2.2.2.2.2.2.2.2.2.2.2.2.2.2.2.2.2.2.2.2.2.2.2.1 s.2.2.2.2.2.2.2.2.2.2.2.2.2.2.2.2.2.2.2.2.2.2.2.2.2.2.2.2.2.2.2.2.2.2.2.1 s.2.2.2.2.2.2.2.2.2.2.2.2.2.2.2.2.2.2.2.2.2.2.2.2.2.2.2.2.2.2.2.2.2.2.2.2.1 s.2.2.2.2.2.2.2.2.2.2.2.2.2.2.2.2.2.2.2.2.2.2.2.2.2.2.2.2.2.2.2.2.2.2.2.2.2.1 s.2.2.2.2.2.2.2.2.2.2.2.2.2.2.2.2.2.2.2.2.2.2.2.2.2.2.2.2.2.2.2.2.2.2.2.2.2.2.1 s.2.2.2.2.2.2.2.2.2.2.2.2.2.2.2.2.2.2.2.2.2.2.2.2.2.2.2.2.2.2.2.2.2.2.2.2.2.2.2.1 s.2.2.2.2.2.2.2.2.2.2.2.2.2.2.2.2.2.2.2.2.2.2.2.2.2.2.2.2.2.2.2.2.2.2.2.2.2.2.2.2.1 s.2.2.2.2.2.2.2.2.2.2.2.2.2.2.2.2.2.2.2.2.2.2.2.2.2.2.2.2.2.2.2.2.2.2.2.2.2.2.2.2.2.1 s.2.2.2.2.2.2.2.2.2.2.2.2.2.2.2.2.2.2.2.2.2.2.2.2.2.2.2.2.2.2.2.2.2.2.2.2.2.2.2.2.2.2) (fun s : (Option Addr) × Nat × (Option Addr) × Nat × (Option Addr) × Nat × (Option Addr) × Nat × (Option Addr) × Nat × (Option Addr) × Nat × (Option Addr) × Nat × (Option Addr) × Nat × (Option Addr) × Nat × (Option Addr) × Nat × (Option Addr) × Nat × (Option Addr) × Nat × (Option Addr) × Nat × (Option Addr) × Nat × (Option Addr) × Nat × (Option Addr) × Nat × (Option Addr) × Nat × (Option Addr) × Nat × (Option Addr) × Nat × (Option Addr) × Nat × (Option Addr) × Nat × Nat => (fun (jx1 : Option Addr) (jk1 : Nat) (jx2 : Option Addr) (jk2 : Nat) (jx3 : Option Addr) (jk3 : Nat) (jx4 : Option Addr) (jk4 : Nat) (jx5 : Option Addr) (jk5 : Nat) (jx6 : Option Addr) (jk6 : Nat) (jx7 : Option Addr) (jk7 : Nat) (jx8 : Option Addr) (jk8 : Nat) (jx9 : Option Addr) (jk9 : Nat) (jx10 : Option Addr) (jk10 : Nat) (jx11 : Option Addr) (jk11 : Nat) (jx12 : Option Addr) (jk12 : Nat) (jx13 : Option Addr) (jk13 : Nat) (jx14 : Option Addr) (jk14 : Nat) (jx15 : Option Addr) (jk15 : Nat) (jx16 : Option Addr) (jk16 : Nat) (jx17 : Option Addr) (jk17 : Nat) (jx18 : Option Addr) (jk18 : Nat) (jx19 : Option Addr) (jk19 : Nat) (jx20 : Option Addr) (jk20 : Nat) (jx21 : Option Addr) (jk21 : Nat) (JB : Nat) => ([] : List (Nat × Itm))) s.1 s.2.1 s.2.2.1 s.2.2.2.1 s.2.2.2.2.1 s.2.2.2.2.2.1 s.2.2.2.2.2.2.1 s.2.2.2.2.2.2.2.1 s.2.2.2.2.2.2.2.2.1 s.2.2.2.2.2.2.2.2.2.1 s.2.2.2.2.2.2.2.2.2.2.1 s.2.2.2.2.2.2.2.2.2.2.2.1 s.2.2.2.2.2.2.2.2.2.2.2.2.1 s.2.2.2.2.2.2.2.2.2.2.2.2.2.1 s.2.2.2.2.2.2.2.2.2.2.2.2.2.2.1 s.2.2.2.2.2.2.2.2.2.2.2.2.2.2.2.1 s.2.2.2.2.2.2.2.2.2.2.2.2.2.2.2.2.1 s.2.2.2.2.2.2.2.2.2.2.2.2.2.2.2.2.2.1 s.2.2.2.2.2.2.2.2.2.2.2.2.2.2.2.2.2.2.1 s.2.2.2.2.2.2.2.2.2.2.2.2.2.2.2.2.2.2.2.1 s.2.2.2.2.2.2.2.2.2.2.2.2.2.2.2.2.2.2.2.2.1 s.2.2.2.2.2.2.2.2.2.2.2.2.2.2.2.2.2.2.2.2.2.1 s.2.2.2.2.2.2.2.2.2.2.2.2.2.2.2.2.2.2.2.2.2.2.1 s.2.2.2.2.2.2.2.2.2.2.2.2.2.2.2.2.2.2.2.2.2.2.2.1 s.2.2.2.2.2.2.2.2.2.2.2.2.2.2.2.2.2.2.2.2.2.2.2.2.1 s.2.2.2.2.2.2.2.2.2.2.2.2.2.2.2.2.2.2.2.2.2.2.2.2.2.1 s.2.2.2.2.2.2.2.2.2.2.2.2.2.2.2.2.2.2.2.2.2.2.2.2.2.2.1 s.2.2.2.2.2.2.2.2.2.2.2.2.2.2.2.2.2.2.2.2.2.2.2.2.2.2.2.1 s.2.2.2.2.2.2.2.2.2.2.2.2.2.2.2.2.2.2.2.2.2.2.2.2.2.2.2.2.1 s.2.2.2.2.2.2.2.2.2.2.2.2.2.2.2.2.2.2.2.2.2.2.2.2.2.2.2.2.2.1 s.2.2.2.2.2.2.2.2.2.2.2.2.2.2.2.2.2.2.2.2.2.2.2.2.2.2.2.2.2.2.1 s.2.2.2.2.2.2.2.2.2.2.2.2.2.2.2.2.2.2.2.2.2.2.2.2.2.2.2.2.2.2.2.1 s.2.2.2.2.2.2.2.2.2.2.2.2.2.2.2.2.2.2.2.2.2.2.2.2.2.2.2.2.2.2.2.2.1 s.2.2.2.2.2.2.2.2.2.2.2.2.2.2.2.2.2.2.2.2.2.2.2.2.2.2.2.2.2.2.2.2.2.1 s.2.2.2.2.2.2.2.2.2.2.2.2.2.2.2.2.2.2.2.2.2.2.2.2.2.2.2.2.2.2.2.2.2.2.1 s.2.2.2.2.2.2.2.2.2.2.2.2.2.2.2.2.2.2.2.2.2.2.2.2.2.2.2.2.2.2.2.2.2.2.2.1 s.2.2.2.2.2.2.2.2.2.2.2.2.2.2.2.2.2.2.2.2.2.2.2.2.2.2.2.2.2.2.2.2.2.2.2.2.1 s.2.2.2.2.2.2.2.2.2.2.2.2.2.2.2.2.2.2.2.2.2.2.2.2.2.2.2.2.2.2.2.2.2.2.2.2.2.1 s.2.2.2.2.2.2.2.2.2.2.2.2.2.2.2.2.2.2.2.2.2.2.2.2.2.2.2.2.2.2.2.2.2.2.2.2.2.2.1 s.2.2.2.2.2.2.2.2.2.2.2.2.2.2.2.2.2.2.2.2.2.2.2.2.2.2.2.2.2.2.2.2.2.2.2.2.2.2.2.1 s.2.2.2.2.2.2.2.2.2.2.2.2.2.2.2.2.2.2.2.2.2.2.2.2.2.2.2.2.2.2.2.2.2.2.2.2.2.2.2.2.1 s.2.2.2.2.2.2.2.2.2.2.2.2.2.2.2.2.2.2.2.2.2.2.2.2.2.2.2.2.2.2.2.2.2.2.2.2.2.2.2.2.2.1 s.2.2.2.2.2.2.2.2.2.2.2.2.2.2.2.2.2.2.2.2.2.2.2.2.2.2.2.2.2.2.2.2.2.2.2.2.2.2.2.2.2.2) (fun s : (Option Addr) × Nat × (Option Addr) × Nat × (Option Addr) × Nat × (Option Addr) × Nat × (Option Addr) × Nat × (Option Addr) × Nat × (Option Addr) × Nat × (Option Addr) × Nat × (Option Addr) × Nat × (Option Addr) × Nat × (Option Addr) × Nat × (Option Addr) × Nat × (Option Addr) × Nat × (Option Addr) × Nat × (Option Addr) × Nat × (Option Addr) × Nat × (Option Addr) × Nat × (Option Addr) × Nat × (Option Addr) × Nat × (Option Addr) × Nat × (Option Addr) × Nat × Nat => (fun (jx1 : Option Addr) (jk1 : Nat) (jx2 : Option Addr) (jk2 : Nat) (jx3 : Option Addr) (jk3 : Nat) (jx4 : Option Addr) (jk4 : Nat) (jx5 : Option Addr) (jk5 : Nat) (jx6 : Option Addr) (jk6 : Nat) (jx7 : Option Addr) (jk7 : Nat) (jx8 : Option Addr) (jk8 : Nat) (jx9 : Option Addr) (jk9 : Nat) (jx10 : Option Addr) (jk10 : Nat) (jx11 : Option Addr) (jk11 : Nat) (jx12 : Option Addr) (jk12 : Nat) (jx13 : Option Addr) (jk13 : Nat) (jx14 : Option Addr) (jk14 : Nat) (jx15 : Option Addr) (jk15 : Nat) (jx16 : Option Addr) (jk16 : Nat) (jx17 : Option Addr) (jk17 : Nat) (jx18 : Option Addr) (jk18 : Nat) (jx19 : Option Addr) (jk19 : Nat) (jx20 : Option Addr) (jk20 : Nat) (jx21 : Option Addr) (jk21 : Nat) (JB : Nat) => ([ownTrI (.agg #[.int .i64 r0.S.S.ob, .slice jx1 r0.S.S.s.length jk1, .slice jx2 r0.S.S.t.length jk2, .slice jx3 r0.S.S.e.length jk3, .slice jx4 r0.S.S.m.length jk4, .int .i64 r0.S.T.ob, .slice jx5 r0.S.T.s.length jk5, .slice jx6 r0.S.T.t.length jk6, .slice jx7 r0.S.T.e.length jk7, .slice jx8 r0.S.T.m.length jk8, .slice jx9 r0.S.o.length jk9, .slice jx10 r0.S.a.length jk10, .int .i64 r0.T.S.ob, .slice jx11 r0.T.S.s.length jk11, .slice jx12 r0.T.S.t.length jk12, .slice jx13 r0.T.S.e.length jk13, .slice jx14 r0.T.S.m.length jk14, .int .i64 r0.T.T.ob, .slice jx15 r0.T.T.s.length jk15, .slice jx16 r0.T.T.t.length jk16, .slice jx17 r0.T.T.e.length jk17, .slice jx18 r0.T.T.m.length jk18, .slice jx19 r0.T.o.length jk19, .slice jx20 r0.T.a.length jk20, .slice jx21 r0.c.length jk21]) r0, bxI JB 36 [.int .i64 r0.S.S.ob, .slice jx1 r0.S.S.s.length jk1, .slice jx2 r0.S.S.t.length jk2, .slice jx3 r0.S.S.e.length jk3, .slice jx4 r0.S.S.m.length jk4, .int .i64 r0.S.T.ob, .slice jx5 r0.S.T.s.length jk5, .slice jx6 r0.S.T.t.length jk6, .slice jx7 r0.S.T.e.length jk7, .slice jx8 r0.S.T.m.length jk8, .slice jx9 r0.S.o.length jk9, .slice jx10 r0.S.a.length jk10, .int .i64 r0.T.S.ob, .slice jx11 r0.T.S.s.length jk11, .slice jx12 r0.T.S.t.length jk12, .slice jx13 r0.T.S.e.length jk13, .slice jx14 r0.T.S.m.length jk14, .int .i64 r0.T.T.ob, .slice jx15 r0.T.T.s.length jk15, .slice jx16 r0.T.T.t.length jk16, .slice jx17 r0.T.T.e.length jk17, .slice jx18 r0.T.T.m.length jk18, .slice jx19 r0.T.o.length jk19, .slice jx20 r0.T.a.length jk20, .slice jx21 r0.c.length jk21]] : List Itm)) s.1 s.2.1 s.2.2.1 s.2.2.2.1 s.2.2.2.2.1 s.2.2.2.2.2.1 s.2.2.2.2.2.2.1 s.2.2.2.2.2.2.2.1 s.2.2.2.2.2.2.2.2.1 s.2.2.2.2.2.2.2.2.2.1 s.2.2.2.2.2.2.2.2.2.2.1 s.2.2.2.2.2.2.2.2.2.2.2.1 s.2.2.2.2.2.2.2.2.2.2.2.2.1 s.2.2.2.2.2.2.2.2.2.2.2.2.2.1 s.2.2.2.2.2.2.2.2.2.2.2.2.2.2.1 s.2.2.2.2.2.2.2.2.2.2.2.2.2.2.2.1 s.2.2.2.2.2.2.2.2.2.2.2.2.2.2.2.2.1 s.2.2.2.2.2.2.2.2.2.2.2.2.2.2.2.2.2.1 s.2.2.2.2.2.2.2.2.2.2.2.2.2.2.2.2.2.2.1 s.2.2.2.2.2.2.2.2.2.2.2.2.2.2.2.2.2.2.2.1 s.2.2.2.2.2.2.2.2.2.2.2.2.2.2.2.2.2.2.2.2.1 s.2.2.2.2.2.2.2.2.2.2.2.2.2.2.2.2.2.2.2.2.2.1 s.2.2.2.2.2.2.2.2.2.2.2.2.2.2.2.2.2.2.2.2.2.2.1 s.2.2.2.2.2.2.2.2.2.2.2.2.2.2.2.2.2.2.2.2.2.2.2.1 s.2.2.2.2.2.2.2.2.2.2.2.2.2.2.2.2.2.2.2.2.2.2.2.2.1 s.2.2.2.2.2.2.2.2.2.2.2.2.2.2.2.2.2.2.2.2.2.2.2.2.2.1 s.2.2.2.2.2.2.2.2.2.2.2.2.2.2.2.2.2.2.2.2.2.2.2.2.2.2.1 s.2.2.2.2.2.2.2.2.2.2.2.2.2.2.2.2.2.2.2.2.2.2.2.2.2.2.2.1 s.2.2.2.2.2.2.2.2.2.2.2.2.2.2.2.2.2.2.2.2.2.2.2.2.2.2.2.2.1 s.2.2.2.2.2.2.2.2.2.2.2.2.2.2.2.2.2.2.2.2.2.2.2.2.2.2.2.2.2.1 s.2.2.2.2.2.2.2.2.2.2.2.2.2.2.2.2.2.2.2.2.2.2.2.2.2.2.2.2.2.2.1 s.2.2.2.2.2.2.2.2.2.2.2.2.2.2.2.2.2.2.2.2.2.2.2.2.2.2.2.2.2.2.2.1 s.2.2.2.2.2.2.2.2.2.2.2.2.2.2.2.2.2.2.2.2.2.2.2.2.2.2.2.2.2.2.2.2.1 s.2.2.2.2.2.2.2.2.2.2.2.2.2.2.2.2.2.2.2.2.2.2.2.2.2.2.2.2.2.2.2.2.2.1 s.2.2.2.2.2.2.2.2.2.2.2.2.2.2.2.2.2.2.2.2.2.2.2.2.2.2.2.2.2.2.2.2.2.2.1 s.2.2.2.2.2.2.2.2.2.2.2.2.2.2.2.2.2.2.2.2.2.2.2.2.2.2.2.2.2.2.2.2.2.2.2.1 s.2.2.2.2.2.2.2.2.2.2.2.2.2.2.2.2.2.2.2.2.2.2.2.2.2.2.2.2.2.2.2.2.2.2.2.2.1 s.2.2.2.2.2.2.2.2.2.2.2.2.2.2.2.2.2.2.2.2.2.2.2.2.2.2.2.2.2.2.2.2.2.2.2.2.2.1 s.2.2.2.2.2.2.2.2.2.2.2.2.2.2.2.2.2.2.2.2.2.2.2.2.2.2.2.2.2.2.2.2.2.2.2.2.2.2.1 s.2.2.2.2.2.2.2.2.2.2.2.2.2.2.2.2.2.2.2.2.2.2.2.2.2.2.2.2.2.2.2.2.2.2.2.2.2.2.2.1 s.2.2.2.2.2.2.2.2.2.2.2.2.2.2.2.2.2.2.2.2.2.2.2.2.2.2.2.2.2.2.2.2.2.2.2.2.2.2.2.2.1 s.2.2.2.2.2.2.2.2.2.2.2.2.2.2.2.2.2.2.2.2.2.2.2.2.2.2.2.2.2.2.2.2.2.2.2.2.2.2.2.2.2.1 s.2.2.2.2.2.2.2.2.2.2.2.2.2.2.2.2.2.2.2.2.2.2.2.2.2.2.2.2.2.2.2.2.2.2.2.2.2.2.2.2.2.2) (sub_cons rfl (sub_cons rfl (sub_cons rfl (sub_cons rfl (sub_cons rfl (sub_cons rfl (sub_cons rfl (sub_cons rfl (sub_cons rfl (sub_cons rfl (sub_cons rfl (sub_cons rfl (sub_cons rfl (sub_cons rfl (sub_cons rfl (sub_cons rfl (sub_cons rfl (sub_cons rfl (sub_cons rfl (sub_cons rfl (sub_cons rfl (sub_cons rfl (sub_cons rfl sub_nil))))))))))))))))))))))) ?_ (fun HJ62 => ?_)
              · rintro ⟨jx1, jk1, jx2, jk2, jx3, jk3, jx4, jk4, jx5, jk5, jx6, jk6, jx7, jk7, jx8, jk8, jx9, jk9, jx10, jk10, jx11, jk11, jx12, jk12, jx13, jk13, jx14, jk14, jx15, jk15, jx16, jk16, jx17, jk17, jx18, jk18, jx19, jk19, jx20, jk20, jx21, jk21, JB⟩
                simp only [updL, List.foldl_cons, List.foldl_nil, List.set_cons_succ, List.set_cons_zero, List.cons_append, List.nil_append]
                refine gk_then (hK61 _ _ ?_)
                refine gc_seq fun K63 hK63 => ?_
                refine gc_seq fun K64 hK64 => ?_
                refine gc_region ?_
                refine g_v (.free rfl) rfl rfl (qt_loadS (n := 13) rfl rfl Try.underlying36 rfl (by kernel_rfl) rfl) ?_
                refine g_v (.free rfl) rfl rfl (qt_loadS (n := 3) rfl rfl Try.underlying36 rfl (by kernel_rfl) rfl) ?_
                refine g_q (.free rfl) rfl rfl (qt_call rfl Try.func17 rfl (by decide) rfl (fun w M => eqTr_refl_any w _ _ _ ((mem_ownTr (n := 12) M rfl).rd) ((mem_ownTr (n := 2) M rfl).rd))) ?_
                refine g_v (.free rfl) rfl rfl (qt_not rfl rfl) ?_
                refine g_v (.free rfl) rfl rfl (qt_move rfl rfl) ?_
                refine g_v (.held _ _ _ rfl rfl rfl) rfl rfl (qt_move rfl rfl) ?_
                refine g_v (.held _ _ _ rfl rfl rfl) rfl rfl (qt_move rfl rfl) ?_
                refine g_v (.held _ _ _ rfl rfl rfl) rfl rfl (qt_neq_f rfl rfl rfl (fun h => h rfl)) ?_
                refine g_v (.free rfl) rfl rfl (qt_pick_f rfl rfl rfl) ?_
                refine g_nil ?_
                refine gk_then (hK64 _ _ ?_)
                refine gc_cond_f rfl ?_
                refine gc_skip ?_
                refine gk_then (hK63 _ _ ?_)
                refine gc_seq fun K65 hK65 => ?_
                refine gc_region ?_
                refine g_v (.free rfl) rfl rfl (qt_assign rfl rfl) ?_
                refine g_nil ?_
                refine gk_then (hK65 _ _ ?_)
                refine gc_seq fun K66 hK66 => ?_
                refine gc_region ?_
                refine g_v (.free rfl) rfl rfl (qt_loadS (n := 9) rfl rfl Try.underlying36 rfl (by kernel_rfl) rfl) ?_
                refine g_v (.free rfl) rfl rfl (qt_move rfl rfl) ?_
                refine g_q (.free rfl) rfl rfl (qt_call rfl Try.func27 rfl (by decide) rfl (fun w M => heldTr_any w _ _ _ ((mem_ownTr (n := 8) M rfl).rd) (by first | assumption | omega) (by first | assumption | omega))) ?_
                refine g_v (.free rfl) rfl rfl (qt_assign rfl rfl) ?_
                refine g_nil ?_
                refine gk_then (hK66 _ _ ?_)
                refine gc_seq fun K67 hK67 => ?_
                refine gc_seq fun K68 hK68 => ?_
                refine gc_region ?_
                refine g_v (.free rfl) rfl rfl (qt_move rfl rfl) ?_
                refine g_v (.free rfl) rfl rfl (qt_lss rfl rfl rfl) ?_
                refine g_nil ?_
                refine gk_then (hK68 _ _ ?_)
                refine gc_cond rfl (fun hc4 => ?_) (fun hc4 => ?_)
                · try simp only [decide_eq_true_eq, decide_eq_false_iff_not, Bool.not_eq_true', Bool.not_eq_false', Bool.not_eq_eq_eq_not, Bool.not_true, Bool.not_false, ne_eq, Decidable.not_not, Classical.not_not] at hc4
                  first | (exfalso; omega) | exact absurd rfl hc4 | (simp at hc4)
                · try simp only [decide_eq_true_eq, decide_eq_false_iff_not, Bool.not_eq_true', Bool.not_eq_false', Bool.not_eq_eq_eq_not, Bool.not_true, Bool.not_false, ne_eq, Decidable.not_not, Classical.not_not] at hc4
                  refine gc_skip ?_
                  refine gk_then (hK67 _ _ ?_)
                  refine gc_seq fun K69 hK69 => ?_
                  refine gc_seq fun K70 hK70 => ?_
                  refine gc_region ?_
                  refine g_v (.free rfl) rfl rfl (qt_move rfl rfl) ?_
                  refine g_v (.free rfl) rfl rfl (qt_move rfl rfl) ?_
                  refine g_v (.free rfl) rfl rfl (qt_neq rfl rfl rfl) ?_
                  refine g_nil ?_
                  refine gk_then (hK70 _ _ ?_)
                  refine gc_cond rfl (fun hc5 => ?_) (fun hc5 => ?_)
                  · try simp only [decide_eq_true_eq, decide_eq_false_iff_not, Bool.not_eq_true', Bool.not_eq_false', Bool.not_eq_eq_eq_not, Bool.not_true, Bool.not_false, ne_eq, Decidable.not_not, Classical.not_not] at hc5
                    first | (exfalso; omega) | exact absurd rfl hc5 | (simp at hc5)
                  · try simp only [decide_eq_true_eq, decide_eq_false_iff_not, Bool.not_eq_true', Bool.not_eq_false', Bool.not_eq_eq_eq_not, Bool.not_true, Bool.not_false, ne_eq, Decidable.not_not, Classical.not_not] at hc5
                    refine gc_skip ?_
                    refine gk_then (hK69 _ _ ?_)
                    refine gc_seq fun K71 hK71 => ?_
                    refine gc_region ?_
                    refine g_v (.free rfl) rfl rfl (qt_assign rfl rfl) ?_
                    refine g_nil ?_
                    refine gk_then (hK71 _ _ ?_)
                    refine gc_ret ?_
                    refine ret_1 rfl rfl  (fun w M => ?_)
                    exact ⟨rfl, M.1⟩
              simp only [updL, List.foldl_cons, List.foldl_nil, List.set_cons_succ, List.set_cons_zero, List.cons_append, List.nil_append] at HJ62
              refine ga_start _ (fun w M => M) ?_
              refine ga_v 0 rfl (by kernel_rfl) (by kernel_rfl) (by kernel_rfl) (.free rfl) rfl rfl (qt_loadS (n := 0) rfl rfl Try.underlying29 rfl (by kernel_rfl) rfl) (fun _ _ _ h => h) ?_
              refine ga_v 2 rfl (by kernel_rfl) (by kernel_rfl) (by kernel_rfl) (.free rfl) rfl rfl (qt_loadS (n := 1) rfl rfl Try.underlying29 rfl (by kernel_rfl) rfl) (fun _ _ _ h => h) ?_
              refine ga_two 1 8 (by kernel_rfl) rfl rfl (.free rfl) (.free rfl) (fun K72 hK72 => ?_) (fun K72 hK72 => ?_)
              · refine go_callTr rfl rfl rfl Try.func15 rfl (by decide) rfl (fun w M => toTr_any w _ _ (mem_rdTr M R0)) ?_
                intro tx1_73 tk1_73 tx2_73 tk2_73 tx3_73 tk3_73 tx4_73 tk4_73 tx5_73 tk5_73 tx6_73 tk6_73 tx7_73 tk7_73 tx8_73 tk8_73 tx9_73 tk9_73 tx10_73 tk10_73 tx11_73 tk11_73 tx12_73 tk12_73 tx13_73 tk13_73 tx14_73 tk14_73 tx15_73 tk15_73 tx16_73 tk16_73 tx17_73 tk17_73 tx18_73 tk18_73 tx19_73 tk19_73 tx20_73 tk20_73 tx21_73 tk21_73
                refine hK72 _ _ (fun w M => (mem_take 12 M :)) ?_
                refine ga_two 3 8 (by kernel_rfl) rfl rfl (.free rfl) (.free rfl) (fun K75 hK75 => ?_) (fun K75 hK75 => ?_)
                · refine go_callTr rfl rfl rfl Try.func15 rfl (by decide) rfl (fun w M => toTr_any w _ _ (mem_rdTr M R1)) ?_
                  intro tx1_76 tk1_76 tx2_76 tk2_76 tx3_76 tk3_76 tx4_76 tk4_76 tx5_76 tk5_76 tx6_76 tk6_76 tx7_76 tk7_76 tx8_76 tk8_76 tx9_76 tk9_76 tx10_76 tk10_76 tx11_76 tk11_76 tx12_76 tk12_76 tx13_76 tk13_76 tx14_76 tk14_76 tx15_76 tk15_76 tx16_76 tk16_76 tx17_76 tk17_76 tx18_76 tk18_76 tx19_76 tk19_76 tx20_76 tk20_76 tx21_76 tk21_76
                  refine hK75 _ _ (fun w M => (mem_take 12 M :)) ?_
                  refine ga_two 4 8 (by kernel_rfl) rfl rfl (.free rfl) (.free rfl) (fun K78 hK78 => ?_) (fun K78 hK78 => ?_)
                  · refine go_callTrI rfl rfl rfl Try.func35 rfl (by decide) rfl (fun w M => himpl w _ _ ((mem_ownTr (n := 12) M rfl).rd) ((mem_ownTr (n := 13) M rfl).rd)) ?_
                    intro tx1_79 tk1_79 tx2_79 tk2_79 tx3_79 tk3_79 tx4_79 tk4_79 tx5_79 tk5_79 tx6_79 tk6_79 tx7_79 tk7_79 tx8_79 tk8_79 tx9_79 tk9_79 tx10_79 tk10_79 tx11_79 tk11_79 tx12_79 tk12_79 tx13_79 tk13_79 tx14_79 tk14_79 tx15_79 tk15_79 tx16_79 tk16_79 tx17_79 tk17_79 tx18_79 tk18_79 tx19_79 tk19_79 tx20_79 tk20_79 tx21_79 tk21_79
                    refine hK78 _ _ (fun w M => (mem_take 12 M :)) ?_
                    refine ga_v 5 rfl (by kernel_rfl) (by kernel_rfl) (by kernel_rfl) (.free rfl) rfl rfl (qt_move rfl rfl) (fun _ _ _ h => h) ?_
                    refine ga_v 6 rfl (by kernel_rfl) (by kernel_rfl) (by kernel_rfl) (.free rfl) rfl rfl (qt_extract rfl rfl rfl) (fun _ _ _ h => h) ?_
                    refine ga_v 7 rfl (by kernel_rfl) (by kernel_rfl) (by kernel_rfl) (.free rfl) rfl rfl (qt_extract rfl rfl rfl) (fun _ _ _ h => h) ?_
                    refine ga_op 8 (by kernel_rfl) rfl (.free rfl) fun K82 hK82 => ?_
                    refine go_alloc (z := (.agg #[.int .i64 0, .slice none 0 0, .slice none 0 0, .slice none 0 0, .slice none 0 0, .int .i64 0, .slice none 0 0, .slice none 0 0, .slice none 0 0, .slice none 0 0, .slice none 0 0, .slice none 0 0, .int .i64 0, .slice none 0 0, .slice none 0 0, .slice none 0 0, .slice none 0 0, .int .i64 0, .slice none 0 0, .slice none 0 0, .slice none 0 0, .slice none 0 0, .slice none 0 0, .slice none 0 0, .slice none 0 0])) (cs := [.int .i64 0, .slice none 0 0, .slice none 0 0, .slice none 0 0, .slice none 0 0, .int .i64 0, .slice none 0 0, .slice none 0 0, .slice none 0 0, .slice none 0 0, .slice none 0 0, .slice none 0 0, .int .i64 0, .slice none 0 0, .slice none 0 0, .slice none 0 0, .slice none 0 0, .int .i64 0, .slice none 0 0, .slice none 0 0, .slice none 0 0, .slice none 0 0, .slice none 0 0, .slice none 0 0, .slice none 0 0]) rfl rfl rfl (fun w => by kernel_rfl) rfl ?_
                    intro B81
                    refine hK82 _ _ (fun w M => (mem_take 12 M :)) ?_
                    refine ga_op 9 (by kernel_rfl) rfl (.free rfl) fun K83 hK83 => ?_
                    refine go_storeS (n := 15) rfl rfl rfl rfl (by kernel_rfl) rfl rfl rfl ?_
                    refine hK83 _ _ (fun w M => (mem_take 12 M :)) ?_
                    refine ga_v 10 rfl (by kernel_rfl) (by kernel_rfl) (by kernel_rfl) (.free rfl) rfl rfl (qt_assign rfl rfl) (fun _ _ _ h => h) ?_
                    refine ga_done (by kernel_rfl) ?_
                    try simp only [List.nil_append, List.cons_append, List.append_assoc, List.set_cons_succ, List.set_cons_zero]
                    refine gk_pickL [0, 0, 0, 0, 0, 0, 0, 0, 0, 0, 0, 0, 2, 2] ?_
                    refine gk_sub ?hs_84 (HJ62 (_, _, _, _, _, _, _, _, _, _, _, _, _, _, _, _, _, _, _, _, _, _, _, _, _, _, _, _, _, _, _, _, _, _, _, _, _, _, _, _, _, _, _))
                    case hs_84 => exact (sub_cons rfl (sub_cons rfl (sub_cons rfl (sub_cons rfl (sub_cons rfl (sub_cons rfl (sub_cons rfl (sub_cons rfl (sub_cons rfl (sub_cons rfl (sub_cons rfl (sub_cons rfl (sub_cons rfl (sub_cons rfl (sub_cons rfl (sub_cons rfl (sub_cons rfl (sub_cons rfl (sub_cons rfl (sub_cons rfl (sub_cons rfl (sub_cons rfl (sub_cons rfl (sub_cons rfl (sub_cons rfl sub_nil)))))))))))))))))))))))))
                  · refine go_alloc (z := (.agg #[.int .i64 0, .slice none 0 0, .slice none 0 0, .slice none 0 0, .slice none 0 0, .int .i64 0, .slice none 0 0, .slice none 0 0, .slice none 0 0, .slice none 0 0, .slice none 0 0, .slice none 0 0, .int .i64 0, .slice none 0 0, .slice none 0 0, .slice none 0 0, .slice none 0 0, .int .i64 0, .slice none 0 0, .slice none 0 0, .slice none 0 0, .slice none 0 0, .slice none 0 0, .slice none 0 0, .slice none 0 0])) (cs := [.int .i64 0, .slice none 0 0, .slice none 0 0, .slice none 0 0, .slice none 0 0, .int .i64 0, .slice none 0 0, .slice none 0 0, .slice none 0 0, .slice none 0 0, .slice none 0 0, .slice none 0 0, .int .i64 0, .slice none 0 0, .slice none 0 0, .slice none 0 0, .slice none 0 0, .int .i64 0, .slice none 0 0, .slice none 0 0, .slice none 0 0, .slice none 0 0, .slice none 0 0, .slice none 0 0, .slice none 0 0]) rfl rfl rfl (fun w => by kernel_rfl) rfl ?_
                    intro B85
                    refine hK78 _ _ (fun w M => (mem_take 12 M :)) ?_
                    refine ga_op 4 (by kernel_rfl) rfl (.free rfl) fun K88 hK88 => ?_
                    refine go_callTrI rfl rfl rfl Try.func35 rfl (by decide) rfl (fun w M => himpl w _ _ ((mem_ownTr (n := 12) M rfl).rd) ((mem_ownTr (n := 13) M rfl).rd)) ?_
                    intro tx1_87 tk1_87 tx2_87 tk2_87 tx3_87 tk3_87 tx4_87 tk4_87 tx5_87 tk5_87 tx6_87 tk6_87 tx7_87 tk7_87 tx8_87 tk8_87 tx9_87 tk9_87 tx10_87 tk10_87 tx11_87 tk11_87 tx12_87 tk12_87 tx13_87 tk13_87 tx14_87 tk14_87 tx15_87 tk15_87 tx16_87 tk16_87 tx17_87 tk17_87 tx18_87 tk18_87 tx19_87 tk19_87 tx20_87 tk20_87 tx21_87 tk21_87
                    refine hK88 _ _ (fun w M => (mem_take 12 M :)) ?_
                    refine ga_v 5 rfl (by kernel_rfl) (by kernel_rfl) (by kernel_rfl) (.free rfl) rfl rfl (qt_move rfl rfl) (fun _ _ _ h => h) ?_
                    refine ga_v 6 rfl (by kernel_rfl) (by kernel_rfl) (by kernel_rfl) (.free rfl) rfl rfl (qt_extract rfl rfl rfl) (fun _ _ _ h => h) ?_
                    refine ga_v 7 rfl (by kernel_rfl) (by kernel_rfl) (by kernel_rfl) (.free rfl) rfl rfl (qt_extract rfl rfl rfl) (fun _ _ _ h => h) ?_
                    refine ga_op 9 (by kernel_rfl) rfl (.free rfl) fun K89 hK89 => ?_
                    refine go_storeS (n := 14) rfl rfl rfl rfl (by kernel_rfl) rfl rfl rfl ?_
                    refine hK89 _ _ (fun w M => (mem_take 12 M :)) ?_
                    refine ga_v 10 rfl (by kernel_rfl) (by kernel_rfl) (by kernel_rfl) (.free rfl) rfl rfl (qt_assign rfl rfl) (fun _ _ _ h => h) ?_
                    refine ga_done (by kernel_rfl) ?_
                    try simp only [List.nil_append, List.cons_append, List.append_assoc, List.set_cons_succ, List.set_cons_zero]
                    refine gk_pickL [0, 0, 0, 0, 0, 0, 0, 0, 0, 0, 0, 0, 3, 2] ?_
                    refine gk_sub ?hs_90 (HJ62 (_, _, _, _, _, _, _, _, _, _, _, _, _, _, _, _, _, _, _, _, _, _, _, _, _, _, _, _, _, _, _, _, _, _, _, _, _, _, _, _, _, _, _))
                    case hs_90 => exact (sub_cons rfl (sub_cons rfl (sub_cons rfl (sub_cons rfl (sub_cons rfl (sub_cons rfl (sub_cons rfl (sub_cons rfl (sub_cons rfl (sub_cons rfl (sub_cons rfl (sub_cons rfl (sub_cons rfl (sub_cons rfl (sub_cons rfl (sub_cons rfl (sub_cons rfl (sub_cons rfl (sub_cons rfl (sub_cons rfl (sub_cons rfl (sub_cons rfl (sub_cons rfl (sub_cons rfl (sub_cons rfl sub_nil)))))))))))))))))))))))))
                · refine go_alloc (z := (.agg #[.int .i64 0, .slice none 0 0, .slice none 0 0, .slice none 0 0, .slice none 0 0, .int .i64 0, .slice none 0 0, .slice none 0 0, .slice none 0 0, .slice none 0 0, .slice none 0 0, .slice none 0 0, .int .i64 0, .slice none 0 0, .slice none 0 0, .slice none 0 0, .slice none 0 0, .int .i64 0, .slice none 0 0, .slice none 0 0, .slice none 0 0, .slice none 0 0, .slice none 0 0, .slice none 0 0, .slice none 0 0])) (cs := [.int .i64 0, .slice none 0 0, .slice none 0 0, .slice none 0 0, .slice none 0 0, .int .i64 0, .slice none 0 0, .slice none 0 0, .slice none 0 0, .slice none 0 0, .slice none 0 0, .slice none 0 0, .int .i64 0, .slice none 0 0, .slice none 0 0, .slice none 0 0, .slice none 0 0, .int .i64 0, .slice none 0 0, .slice none 0 0, .slice none 0 0, .slice none 0 0, .slice none 0 0, .slice none 0 0, .slice none 0 0]) rfl rfl rfl (fun w => by kernel_rfl) rfl ?_
                  intro B91
                  refine hK75 _ _ (fun w M => (mem_take 12 M :)) ?_
                  refine ga_op 3 (by kernel_rfl) rfl (.free rfl) fun K94 hK94 => ?_
                  refine go_callTr rfl rfl rfl Try.func15 rfl (by decide) rfl (fun w M => toTr_any w _ _ (mem_rdTr M R1)) ?_
                  intro tx1_93 tk1_93 tx2_93 tk2_93 tx3_93 tk3_93 tx4_93 tk4_93 tx5_93 tk5_93 tx6_93 tk6_93 tx7_93 tk7_93 tx8_93 tk8_93 tx9_93 tk9_93 tx10_93 tk10_93 tx11_93 tk11_93 tx12_93 tk12_93 tx13_93 tk13_93 tx14_93 tk14_93 tx15_93 tk15_93 tx16_93 tk16_93 tx17_93 tk17_93 tx18_93 tk18_93 tx19_93 tk19_93 tx20_93 tk20_93 tx21_93 tk21_93
                  refine hK94 _ _ (fun w M => (mem_take 12 M :)) ?_
                  refine ga_op 4 (by kernel_rfl) rfl (.free rfl) fun K96 hK96 => ?_
                  refine go_callTrI rfl rfl rfl Try.func35 rfl (by decide) rfl (fun w M => himpl w _ _ ((mem_ownTr (n := 12) M rfl).rd) ((mem_ownTr (n := 14) M rfl).rd)) ?_
                  intro tx1_95 tk1_95 tx2_95 tk2_95 tx3_95 tk3_95 tx4_95 tk4_95 tx5_95 tk5_95 tx6_95 tk6_95 tx7_95 tk7_95 tx8_95 tk8_95 tx9_95 tk9_95 tx10_95 tk10_95 tx11_95 tk11_95 tx12_95 tk12_95 tx13_95 tk13_95 tx14_95 tk14_95 tx15_95 tk15_95 tx16_95 tk16_95 tx17_95 tk17_95 tx18_95 tk18_95 tx19_95 tk19_95 tx20_95 tk20_95 tx21_95 tk21_95
                  refine hK96 _ _ (fun w M => (mem_take 12 M :)) ?_
                  refine ga_v 5 rfl (by kernel_rfl) (by kernel_rfl) (by kernel_rfl) (.free rfl) rfl rfl (qt_move rfl rfl) (fun _ _ _ h => h) ?_
                  refine ga_v 6 rfl (by kernel_rfl) (by kernel_rfl) (by kernel_rfl) (.free rfl) rfl rfl (qt_extract rfl rfl rfl) (fun _ _ _ h => h) ?_
                  refine ga_v 7 rfl (by kernel_rfl) (by kernel_rfl) (by kernel_rfl) (.free rfl) rfl rfl (qt_extract rfl rfl rfl) (fun _ _ _ h => h) ?_
                  refine ga_op 9 (by kernel_rfl) rfl (.free rfl) fun K97 hK97 => ?_
                  refine go_storeS (n := 13) rfl rfl rfl rfl (by kernel_rfl) rfl rfl rfl ?_
                  refine hK97 _ _ (fun w M => (mem_take 12 M :)) ?_
                  refine ga_v 10 rfl (by kernel_rfl) (by kernel_rfl) (by kernel_rfl) (.free rfl) rfl rfl (qt_assign rfl rfl) (fun _ _ _ h => h) ?_
                  refine ga_done (by kernel_rfl) ?_
                  try simp only [List.nil_append, List.cons_append, List.append_assoc, List.set_cons_succ, List.set_cons_zero]
                  refine gk_pickL [0, 0, 0, 0, 0, 0, 0, 0, 0, 0, 0, 0, 3, 1] ?_
                  refine gk_sub ?hs_98 (HJ62 (_, _, _, _, _, _, _, _, _, _, _, _, _, _, _, _, _, _, _, _, _, _, _, _, _, _, _, _, _, _, _, _, _, _, _, _, _, _, _, _, _, _, _))
                  case hs_98 => exact (sub_cons rfl (sub_cons rfl (sub_cons rfl (sub_cons rfl (sub_cons rfl (sub_cons rfl (sub_cons rfl (sub_cons rfl (sub_cons rfl (sub_cons rfl (sub_cons rfl (sub_cons rfl (sub_cons rfl (sub_cons rfl (sub_cons rfl (sub_cons rfl (sub_cons rfl (sub_cons rfl (sub_cons rfl (sub_cons rfl (sub_cons rfl (sub_cons rfl (sub_cons rfl (sub_cons rfl (sub_cons rfl sub_nil)))))))))))))))))))))))))
              · refine go_alloc (z := (.agg #[.int .i64 0, .slice none 0 0, .slice none 0 0, .slice none 0 0, .slice none 0 0, .int .i64 0, .slice none 0 0, .slice none 0 0, .slice none 0 0, .slice none 0 0, .slice none 0 0, .slice none 0 0, .int .i64 0, .slice none 0 0, .slice none 0 0, .slice none 0 0, .slice none 0 0, .int .i64 0, .slice none 0 0, .slice none 0 0, .slice none 0 0, .slice none 0 0, .slice none 0 0, .slice none 0 0, .slice none 0 0])) (cs := [.int .i64 0, .slice none 0 0, .slice none 0 0, .slice none 0 0, .slice none 0 0, .int .i64 0, .slice none 0 0, .slice none 0 0, .slice none 0 0, .slice none 0 0, .slice none 0 0, .slice none 0 0, .int .i64 0, .slice none 0 0, .slice none 0 0, .slice none 0 0, .slice none 0 0, .int .i64 0, .slice none 0 0, .slice none 0 0, .slice none 0 0, .slice none 0 0, .slice none 0 0, .slice none 0 0, .slice none 0 0]) rfl rfl rfl (fun w => by kernel_rfl) rfl ?_
                intro B99
                refine hK72 _ _ (fun w M => (mem_take 12 M :)) ?_
                refine ga_op 1 (by kernel_rfl) rfl (.free rfl) fun K102 hK102 => ?_
                refine go_callTr rfl rfl rfl Try.func15 rfl (by decide) rfl (fun w M => toTr_any w _ _ (mem_rdTr M R0)) ?_
                intro tx1_101 tk1_101 tx2_101 tk2_101 tx3_101 tk3_101 tx4_101 tk4_101 tx5_101 tk5_101 tx6_101 tk6_101 tx7_101 tk7_101 tx8_101 tk8_101 tx9_101 tk9_101 tx10_101 tk10_101 tx11_101 tk11_101 tx12_101 tk12_101 tx13_101 tk13_101 tx14_101 tk14_101 tx15_101 tk15_101 tx16_101 tk16_101 tx17_101 tk17_101 tx18_101 tk18_101 tx19_101 tk19_101 tx20_101 tk20_101 tx21_101 tk21_101
                refine hK102 _ _ (fun w M => (mem_take 12 M :)) ?_
                refine ga_op 3 (by kernel_rfl) rfl (.free rfl) fun K104 hK104 => ?_
                refine go_callTr rfl rfl rfl Try.func15 rfl (by decide) rfl (fun w M => toTr_any w _ _ (mem_rdTr M R1)) ?_
                intro tx1_103 tk1_103 tx2_103 tk2_103 tx3_103 tk3_103 tx4_103 tk4_103 tx5_103 tk5_103 tx6_103 tk6_103 tx7_103 tk7_103 tx8_103 tk8_103 tx9_103 tk9_103 tx10_103 tk10_103 tx11_103 tk11_103 tx12_103 tk12_103 tx13_103 tk13_103 tx14_103 tk14_103 tx15_103 tk15_103 tx16_103 tk16_103 tx17_103 tk17_103 tx18_103 tk18_103 tx19_103 tk19_103 tx20_103 tk20_103 tx21_103 tk21_103
                refine hK104 _ _ (fun w M => (mem_take 12 M :)) ?_
                refine ga_op 4 (by kernel_rfl) rfl (.free rfl) fun K106 hK106 => ?_
                refine go_callTrI rfl rfl rfl Try.func35 rfl (by decide) rfl (fun w M => himpl w _ _ ((mem_ownTr (n := 13) M rfl).rd) ((mem_ownTr (n := 14) M rfl).rd)) ?_
                intro tx1_105 tk1_105 tx2_105 tk2_105 tx3_105 tk3_105 tx4_105 tk4_105 tx5_105 tk5_105 tx6_105 tk6_105 tx7_105 tk7_105 tx8_105 tk8_105 tx9_105 tk9_105 tx10_105 tk10_105 tx11_105 tk11_105 tx12_105 tk12_105 tx13_105 tk13_105 tx14_105 tk14_105 tx15_105 tk15_105 tx16_105 tk16_105 tx17_105 tk17_105 tx18_105 tk18_105 tx19_105 tk19_105 tx20_105 tk20_105 tx21_105 tk21_105
                refine hK106 _ _ (fun w M => (mem_take 12 M :)) ?_
                refine ga_v 5 rfl (by kernel_rfl) (by kernel_rfl) (by kernel_rfl) (.free rfl) rfl rfl (qt_move rfl rfl) (fun _ _ _ h => h) ?_
                refine ga_v 6 rfl (by kernel_rfl) (by kernel_rfl) (by kernel_rfl) (.free rfl) rfl rfl (qt_extract rfl rfl rfl) (fun _ _ _ h => h) ?_
                refine ga_v 7 rfl (by kernel_rfl) (by kernel_rfl) (by kernel_rfl) (.free rfl) rfl rfl (qt_extract rfl rfl rfl) (fun _ _ _ h => h) ?_
                refine ga_op 9 (by kernel_rfl) rfl (.free rfl) fun K107 hK107 => ?_
                refine go_storeS (n := 12) rfl rfl rfl rfl (by kernel_rfl) rfl rfl rfl ?_
                refine hK107 _ _ (fun w M => (mem_take 12 M :)) ?_
                refine ga_v 10 rfl (by kernel_rfl) (by kernel_rfl) (by kernel_rfl) (.free rfl) rfl rfl (qt_assign rfl rfl) (fun _ _ _ h => h) ?_
                refine ga_done (by kernel_rfl) ?_
                try simp only [List.nil_append, List.cons_append, List.append_assoc, List.set_cons_succ, List.set_cons_zero]
                refine gk_pickL [0, 0, 0, 0, 0, 0, 0, 0, 0, 0, 0, 0, 3, 0] ?_
                refine gk_sub ?hs_108 (HJ62 (_, _, _, _, _, _, _, _, _, _, _, _, _, _, _, _, _, _, _, _, _, _, _, _, _, _, _, _, _, _, _, _, _, _, _, _, _, _, _, _, _, _, _))
                case hs_108 => exact (sub_cons rfl (sub_cons rfl (sub_cons rfl (sub_cons rfl (sub_cons rfl (sub_cons rfl (sub_cons rfl (sub_cons rfl (sub_cons rfl (sub_cons rfl (sub_cons rfl (sub_cons rfl (sub_cons rfl (sub_cons rfl (sub_cons rfl (sub_cons rfl (sub_cons rfl (sub_cons rfl (sub_cons rfl (sub_cons rfl (sub_cons rfl (sub_cons rfl (sub_cons rfl (sub_cons rfl (sub_cons rfl sub_nil)))))))))))))))))))))))))
      simp only [updL, List.foldl_cons, List.foldl_nil, List.set_cons_succ, List.set_cons_zero, List.cons_append, List.nil_append] at HJ14
      refine ga_start _ (fun w M => M) ?_
      refine ga_v 0 rfl (by kernel_rfl) (by kernel_rfl) (by kernel_rfl) (.free rfl) rfl rfl (qt_loadS (n := 0) rfl rfl Try.underlying29 rfl (by kernel_rfl) rfl) (fun _ _ _ h => h) ?_
      refine ga_v 2 rfl (by kernel_rfl) (by kernel_rfl) (by kernel_rfl) (.free rfl) rfl rfl (qt_loadS (n := 1) rfl rfl Try.underlying29 rfl (by kernel_rfl) rfl) (fun _ _ _ h => h) ?_
      refine ga_two 1 8 (by kernel_rfl) rfl rfl (.free rfl) (.free rfl) (fun K109 hK109 => ?_) (fun K109 hK109 => ?_)
      · refine go_callTr rfl rfl rfl Try.func15 rfl (by decide) rfl (fun w M => toTr_any w _ _ (mem_rdTr M R0)) ?_
        intro tx1_110 tk1_110 tx2_110 tk2_110 tx3_110 tk3_110 tx4_110 tk4_110 tx5_110 tk5_110 tx6_110 tk6_110 tx7_110 tk7_110 tx8_110 tk8_110 tx9_110 tk9_110 tx10_110 tk10_110 tx11_110 tk11_110 tx12_110 tk12_110 tx13_110 tk13_110 tx14_110 tk14_110 tx15_110 tk15_110 tx16_110 tk16_110 tx17_110 tk17_110 tx18_110 tk18_110 tx19_110 tk19_110 tx20_110 tk20_110 tx21_110 tk21_110
        refine hK109 _ _ (fun w M => (mem_take 2 M :)) ?_
        refine ga_two 3 8 (by kernel_rfl) rfl rfl (.free rfl) (.free rfl) (fun K112 hK112 => ?_) (fun K112 hK112 => ?_)
        · refine go_callTr rfl rfl rfl Try.func15 rfl (by decide) rfl (fun w M => toTr_any w _ _ (mem_rdTr M R1)) ?_
          intro tx1_113 tk1_113 tx2_113 tk2_113 tx3_113 tk3_113 tx4_113 tk4_113 tx5_113 tk5_113 tx6_113 tk6_113 tx7_113 tk7_113 tx8_113 tk8_113 tx9_113 tk9_113 tx10_113 tk10_113 tx11_113 tk11_113 tx12_113 tk12_113 tx13_113 tk13_113 tx14_113 tk14_113 tx15_113 tk15_113 tx16_113 tk16_113 tx17_113 tk17_113 tx18_113 tk18_113 tx19_113 tk19_113 tx20_113 tk20_113 tx21_113 tk21_113
          refine hK112 _ _ (fun w M => (mem_take 2 M :)) ?_
          refine ga_two 4 8 (by kernel_rfl) rfl rfl (.free rfl) (.free rfl) (fun K115 hK115 => ?_) (fun K115 hK115 => ?_)
          · refine go_callTrI rfl rfl rfl Try.func34 rfl (by decide) rfl (fun w M => hspec w _ _ ((mem_ownTr (n := 2) M rfl).rd) ((mem_ownTr (n := 3) M rfl).rd)) ?_
            intro tx1_116 tk1_116 tx2_116 tk2_116 tx3_116 tk3_116 tx4_116 tk4_116 tx5_116 tk5_116 tx6_116 tk6_116 tx7_116 tk7_116 tx8_116 tk8_116 tx9_116 tk9_116 tx10_116 tk10_116 tx11_116 tk11_116 tx12_116 tk12_116 tx13_116 tk13_116 tx14_116 tk14_116 tx15_116 tk15_116 tx16_116 tk16_116 tx17_116 tk17_116 tx18_116 tk18_116 tx19_116 tk19_116 tx20_116 tk20_116 tx21_116 tk21_116
            refine hK115 _ _ (fun w M => (mem_take 2 M :)) ?_
            refine ga_v 5 rfl (by kernel_rfl) (by kernel_rfl) (by kernel_rfl) (.free rfl) rfl rfl (qt_move rfl rfl) (fun _ _ _ h => h) ?_
            refine ga_v 6 rfl (by kernel_rfl) (by kernel_rfl) (by kernel_rfl) (.free rfl) rfl rfl (qt_extract rfl rfl rfl) (fun _ _ _ h => h) ?_
            refine ga_v 7 rfl (by kernel_rfl) (by kernel_rfl) (by kernel_rfl) (.free rfl) rfl rfl (qt_extract rfl rfl rfl) (fun _ _ _ h => h) ?_
            refine ga_op 8 (by kernel_rfl) rfl (.free rfl) fun K119 hK119 => ?_
            refine go_alloc (z := (.agg #[.int .i64 0, .slice none 0 0, .slice none 0 0, .slice none 0 0, .slice none 0 0, .int .i64 0, .slice none 0 0, .slice none 0 0, .slice none 0 0, .slice none 0 0, .slice none 0 0, .slice none 0 0, .int .i64 0, .slice none 0 0, .slice none 0 0, .slice none 0 0, .slice none 0 0, .int .i64 0, .slice none 0 0, .slice none 0 0, .slice none 0 0, .slice none 0 0, .slice none 0 0, .slice none 0 0, .slice none 0 0])) (cs := [.int .i64 0, .slice none 0 0, .slice none 0 0, .slice none 0 0, .slice none 0 0, .int .i64 0, .slice none 0 0, .slice none 0 0, .slice none 0 0, .slice none 0 0, .slice none 0 0, .slice none 0 0, .int .i64 0, .slice none 0 0, .slice none 0 0, .slice none 0 0, .slice none 0 0, .int .i64 0, .slice none 0 0, .slice none 0 0, .slice none 0 0, .slice none 0 0, .slice none 0 0, .slice none 0 0, .slice none 0 0]) rfl rfl rfl (fun w => by kernel_rfl) rfl ?_
            intro B118
            refine hK119 _ _ (fun w M => (mem_take 2 M :)) ?_
            refine ga_op 9 (by kernel_rfl) rfl (.free rfl) fun K120 hK120 => ?_
            refine go_storeS (n := 5) rfl rfl rfl rfl (by kernel_rfl) rfl rfl rfl ?_
            refine hK120 _ _ (fun w M => (mem_take 2 M :)) ?_
            refine ga_v 10 rfl (by kernel_rfl) (by kernel_rfl) (by kernel_rfl) (.free rfl) rfl rfl (qt_assign rfl rfl) (fun _ _ _ h => h) ?_
            refine ga_done (by kernel_rfl) ?_
            try simp only [List.nil_append, List.cons_append, List.append_assoc, List.set_cons_succ, List.set_cons_zero]
            refine gk_pickL [0, 0, 2, 2] ?_
            refine gk_sub ?hs_121 (HJ14 (_, _, _, _, _, _, _, _, _, _, _, _, _, _, _, _, _, _, _, _, _, _, _, _, _, _, _, _, _, _, _, _, _, _, _, _, _, _, _, _, _, _, _))
            case hs_121 => exact (sub_cons rfl (sub_cons rfl (sub_cons rfl (sub_cons rfl (sub_cons rfl (sub_cons rfl (sub_cons rfl (sub_cons rfl (sub_cons rfl (sub_cons rfl sub_nil))))))))))
          · refine go_alloc (z := (.agg #[.int .i64 0, .slice none 0 0, .slice none 0 0, .slice none 0 0, .slice none 0 0, .int .i64 0, .slice none 0 0, .slice none 0 0, .slice none 0 0, .slice none 0 0, .slice none 0 0, .slice none 0 0, .int .i64 0, .slice none 0 0, .slice none 0 0, .slice none 0 0, .slice none 0 0, .int .i64 0, .slice none 0 0, .slice none 0 0, .slice none 0 0, .slice none 0 0, .slice none 0 0, .slice none 0 0, .slice none 0 0])) (cs := [.int .i64 0, .slice none 0 0, .slice none 0 0, .slice none 0 0, .slice none 0 0, .int .i64 0, .slice none 0 0, .slice none 0 0, .slice none 0 0, .slice none 0 0, .slice none 0 0, .slice none 0 0, .int .i64 0, .slice none 0 0, .slice none 0 0, .slice none 0 0, .slice none 0 0, .int .i64 0, .slice none 0 0, .slice none 0 0, .slice none 0 0, .slice none 0 0, .slice none 0 0, .slice none 0 0, .slice none 0 0]) rfl rfl rfl (fun w => by kernel_rfl) rfl ?_
            intro B122
            refine hK115 _ _ (fun w M => (mem_take 2 M :)) ?_
            refine ga_op 4 (by kernel_rfl) rfl (.free rfl) fun K125 hK125 => ?_
            refine go_callTrI rfl rfl rfl Try.func34 rfl (by decide) rfl (fun w M => hspec w _ _ ((mem_ownTr (n := 2) M rfl).rd) ((mem_ownTr (n := 3) M rfl).rd)) ?_
            intro tx1_124 tk1_124 tx2_124 tk2_124 tx3_124 tk3_124 tx4_124 tk4_124 tx5_124 tk5_124 tx6_124 tk6_124 tx7_124 tk7_124 tx8_124 tk8_124 tx9_124 tk9_124 tx10_124 tk10_124 tx11_124 tk11_124 tx12_124 tk12_124 tx13_124 tk13_124 tx14_124 tk14_124 tx15_124 tk15_124 tx16_124 tk16_124 tx17_124 tk17_124 tx18_124 tk18_124 tx19_124 tk19_124 tx20_124 tk20_124 tx21_124 tk21_124
            refine hK125 _ _ (fun w M => (mem_take 2 M :)) ?_
            refine ga_v 5 rfl (by kernel_rfl) (by kernel_rfl) (by kernel_rfl) (.free rfl) rfl rfl (qt_move rfl rfl) (fun _ _ _ h => h) ?_
            refine ga_v 6 rfl (by kernel_rfl) (by kernel_rfl) (by kernel_rfl) (.free rfl) rfl rfl (qt_extract rfl rfl rfl) (fun _ _ _ h => h) ?_
            refine ga_v 7 rfl (by kernel_rfl) (by kernel_rfl) (by kernel_rfl) (.free rfl) rfl rfl (qt_extract rfl rfl rfl) (fun _ _ _ h => h) ?_
            refine ga_op 9 (by kernel_rfl) rfl (.free rfl) fun K126 hK126 => ?_
            refine go_storeS (n := 4) rfl rfl rfl rfl (by kernel_rfl) rfl rfl rfl ?_
            refine hK126 _ _ (fun w M => (mem_take 2 M :)) ?_
            refine ga_v 10 rfl (by kernel_rfl) (by kernel_rfl) (by kernel_rfl) (.free rfl) rfl rfl (qt_assign rfl rfl) (fun _ _ _ h => h) ?_
            refine ga_done (by kernel_rfl) ?_
            try simp only [List.nil_append, List.cons_append, List.append_assoc, List.set_cons_succ, List.set_cons_zero]
            refine gk_pickL [0, 0, 3, 2] ?_
            refine gk_sub ?hs_127 (HJ14 (_, _, _, _, _, _, _, _, _, _, _, _, _, _, _, _, _, _, _, _, _, _, _, _, _, _, _, _, _, _, _, _, _, _, _, _, _, _, _, _, _, _, _))
            case hs_127 => exact (sub_cons rfl (sub_cons rfl (sub_cons rfl (sub_cons rfl (sub_cons rfl (sub_cons rfl (sub_cons rfl (sub_cons rfl (sub_cons rfl (sub_cons rfl sub_nil))))))))))
        · refine go_alloc (z := (.agg #[.int .i64 0, .slice none 0 0, .slice none 0 0, .slice none 0 0, .slice none 0 0, .int .i64 0, .slice none 0 0, .slice none 0 0, .slice none 0 0, .slice none 0 0, .slice none 0 0, .slice none 0 0, .int .i64 0, .slice none 0 0, .slice none 0 0, .slice none 0 0, .slice none 0 0, .int .i64 0, .slice none 0 0, .slice none 0 0, .slice none 0 0, .slice none 0 0, .slice none 0 0, .slice none 0 0, .slice none 0 0])) (cs := [.int .i64 0, .slice none 0 0, .slice none 0 0, .slice none 0 0, .slice none 0 0, .int .i64 0, .slice none 0 0, .slice none 0 0, .slice none 0 0, .slice none 0 0, .slice none 0 0, .slice none 0 0, .int .i64 0, .slice none 0 0, .slice none 0 0, .slice none 0 0, .slice none 0 0, .int .i64 0, .slice none 0 0, .slice none 0 0, .slice none 0 0, .slice none 0 0, .slice none 0 0, .slice none 0 0, .slice none 0 0]) rfl rfl rfl (fun w => by kernel_rfl) rfl ?_
          intro B128
          refine hK112 _ _ (fun w M => (mem_take 2 M :)) ?_
          refine ga_op 3 (by kernel_rfl) rfl (.free rfl) fun K131 hK131 => ?_
          refine go_callTr rfl rfl rfl Try.func15 rfl (by decide) rfl (fun w M => toTr_any w _ _ (mem_rdTr M R1)) ?_
          intro tx1_130 tk1_130 tx2_130 tk2_130 tx3_130 tk3_130 tx4_130 tk4_130 tx5_130 tk5_130 tx6_130 tk6_130 tx7_130 tk7_130 tx8_130 tk8_130 tx9_130 tk9_130 tx10_130 tk10_130 tx11_130 tk11_130 tx12_130 tk12_130 tx13_130 tk13_130 tx14_130 tk14_130 tx15_130 tk15_130 tx16_130 tk16_130 tx17_130 tk17_130 tx18_130 tk18_130 tx19_130 tk19_130 tx20_130 tk20_130 tx21_130 tk21_130
          refine hK131 _ _ (fun w M => (mem_take 2 M :)) ?_
          refine ga_op 4 (by kernel_rfl) rfl (.free rfl) fun K133 hK133 => ?_
          refine go_callTrI rfl rfl rfl Try.func34 rfl (by decide) rfl (fun w M => hspec w _ _ ((mem_ownTr (n := 2) M rfl).rd) ((mem_ownTr (n := 4) M rfl).rd)) ?_
          intro tx1_132 tk1_132 tx2_132 tk2_132 tx3_132 tk3_132 tx4_132 tk4_132 tx5_132 tk5_132 tx6_132 tk6_132 tx7_132 tk7_132 tx8_132 tk8_132 tx9_132 tk9_132 tx10_132 tk10_132 tx11_132 tk11_132 tx12_132 tk12_132 tx13_132 tk13_132 tx14_132 tk14_132 tx15_132 tk15_132 tx16_132 tk16_132 tx17_132 tk17_132 tx18_132 tk18_132 tx19_132 tk19_132 tx20_132 tk20_132 tx21_132 tk21_132
          refine hK133 _ _ (fun w M => (mem_take 2 M :)) ?_
          refine ga_v 5 rfl (by kernel_rfl) (by kernel_rfl) (by kernel_rfl) (.free rfl) rfl rfl (qt_move rfl rfl) (fun _ _ _ h => h) ?_
          refine ga_v 6 rfl (by kernel_rfl) (by kernel_rfl) (by kernel_rfl) (.free rfl) rfl rfl (qt_extract rfl rfl rfl) (fun _ _ _ h => h) ?_
          refine ga_v 7 rfl (by kernel_rfl) (by kernel_rfl) (by kernel_rfl) (.free rfl) rfl rfl (qt_extract rfl rfl rfl) (fun _ _ _ h => h) ?_
          refine ga_op 9 (by kernel_rfl) rfl (.free rfl) fun K134 hK134 => ?_
          refine go_storeS (n := 3) rfl rfl rfl rfl (by kernel_rfl) rfl rfl rfl ?_
          refine hK134 _ _ (fun w M => (mem_take 2 M :)) ?_
          refine ga_v 10 rfl (by kernel_rfl) (by kernel_rfl) (by kernel_rfl) (.free rfl) rfl rfl (qt_assign rfl rfl) (fun _ _ _ h => h) ?_
          refine ga_done (by kernel_rfl) ?_
          try simp only [List.nil_append, List.cons_append, List.append_assoc, List.set_cons_succ, List.set_cons_zero]
          refine gk_pickL [0, 0, 3, 1] ?_
          refine gk_sub ?hs_135 (HJ14 (_, _, _, _, _, _, _, _, _, _, _, _, _, _, _, _, _, _, _, _, _, _, _, _, _, _, _, _, _, _, _, _, _, _, _, _, _, _, _, _, _, _, _))
          case hs_135 => exact (sub_cons rfl (sub_cons rfl (sub_cons rfl (sub_cons rfl (sub_cons rfl (sub_cons rfl (sub_cons rfl (sub_cons rfl (sub_cons rfl (sub_cons rfl sub_nil))))))))))
      · refine go_alloc (z := (.agg #[.int .i64 0, .slice none 0 0, .slice none 0 0, .slice none 0 0, .slice none 0 0, .int .i64 0, .slice none 0 0, .slice none 0 0, .slice none 0 0, .slice none 0 0, .slice none 0 0, .slice none 0 0, .int .i64 0, .slice none 0 0, .slice none 0 0, .slice none 0 0, .slice none 0 0, .int .i64 0, .slice none 0 0, .slice none 0 0, .slice none 0 0, .slice none 0 0, .slice none 0 0, .slice none 0 0, .slice none 0 0])) (cs := [.int .i64 0, .slice none 0 0, .slice none 0 0, .slice none 0 0, .slice none 0 0, .int .i64 0, .slice none 0 0, .slice none 0 0, .slice none 0 0, .slice none 0 0, .slice none 0 0, .slice none 0 0, .int .i64 0, .slice none 0 0, .slice none 0 0, .slice none 0 0, .slice none 0 0, .int .i64 0, .slice none 0 0, .slice none 0 0, .slice none 0 0, .slice none 0 0, .slice none 0 0, .slice none 0 0, .slice none 0 0]) rfl rfl rfl (fun w => by kernel_rfl) rfl ?_
        intro B136
        refine hK109 _ _ (fun w M => (mem_take 2 M :)) ?_
        refine ga_op 1 (by kernel_rfl) rfl (.free rfl) fun K139 hK139 => ?_
        refine go_callTr rfl rfl rfl Try.func15 rfl (by decide) rfl (fun w M => toTr_any w _ _ (mem_rdTr M R0)) ?_
        intro tx1_138 tk1_138 tx2_138 tk2_138 tx3_138 tk3_138 tx4_138 tk4_138 tx5_138 tk5_138 tx6_138 tk6_138 tx7_138 tk7_138 tx8_138 tk8_138 tx9_138 tk9_138 tx10_138 tk10_138 tx11_138 tk11_138 tx12_138 tk12_138 tx13_138 tk13_138 tx14_138 tk14_138 tx15_138 tk15_138 tx16_138 tk16_138 tx17_138 tk17_138 tx18_138 tk18_138 tx19_138 tk19_138 tx20_138 tk20_138 tx21_138 tk21_138
        refine hK139 _ _ (fun w M => (mem_take 2 M :)) ?_
        refine ga_op 3 (by kernel_rfl) rfl (.free rfl) fun K141 hK141 => ?_
        refine go_callTr rfl rfl rfl Try.func15 rfl (by decide) rfl (fun w M => toTr_any w _ _ (mem_rdTr M R1)) ?_
        intro tx1_140 tk1_140 tx2_140 tk2_140 tx3_140 tk3_140 tx4_140 tk4_140 tx5_140 tk5_140 tx6_140 tk6_140 tx7_140 tk7_140 tx8_140 tk8_140 tx9_140 tk9_140 tx10_140 tk10_140 tx11_140 tk11_140 tx12_140 tk12_140 tx13_140 tk13_140 tx14_140 tk14_140 tx15_140 tk15_140 tx16_140 tk16_140 tx17_140 tk17_140 tx18_140 tk18_140 tx19_140 tk19_140 tx20_140 tk20_140 tx21_140 tk21_140
        refine hK141 _ _ (fun w M => (mem_take 2 M :)) ?_
        refine ga_op 4 (by kernel_rfl) rfl (.free rfl) fun K143 hK143 => ?_
        refine go_callTrI rfl rfl rfl Try.func34 rfl (by decide) rfl (fun w M => hspec w _ _ ((mem_ownTr (n := 3) M rfl).rd) ((mem_ownTr (n := 4) M rfl).rd)) ?_
        intro tx1_142 tk1_142 tx2_142 tk2_142 tx3_142 tk3_142 tx4_142 tk4_142 tx5_142 tk5_142 tx6_142 tk6_142 tx7_142 tk7_142 tx8_142 tk8_142 tx9_142 tk9_142 tx10_142 tk10_142 tx11_142 tk11_142 tx12_142 tk12_142 tx13_142 tk13_142 tx14_142 tk14_142 tx15_142 tk15_142 tx16_142 tk16_142 tx17_142 tk17_142 tx18_142 tk18_142 tx19_142 tk19_142 tx20_142 tk20_142 tx21_142 tk21_142
        refine hK143 _ _ (fun w M => (mem_take 2 M :)) ?_
        refine ga_v 5 rfl (by kernel_rfl) (by kernel_rfl) (by kernel_rfl) (.free rfl) rfl rfl (qt_move rfl rfl) (fun _ _ _ h => h) ?_
        refine ga_v 6 rfl (by kernel_rfl) (by kernel_rfl) (by kernel_rfl) (.free rfl) rfl rfl (qt_extract rfl rfl rfl) (fun _ _ _ h => h) ?_
        refine ga_v 7 rfl (by kernel_rfl) (by kernel_rfl) (by kernel_rfl) (.free rfl) rfl rfl (qt_extract rfl rfl rfl) (fun _ _ _ h => h) ?_
        refine ga_op 9 (by kernel_rfl) rfl (.free rfl) fun K144 hK144 => ?_
        refine go_storeS (n := 2) rfl rfl rfl rfl (by kernel_rfl) rfl rfl rfl ?_
        refine hK144 _ _ (fun w M => (mem_take 2 M :)) ?_
        refine ga_v 10 rfl (by kernel_rfl) (by kernel_rfl) (by kernel_rfl) (.free rfl) rfl rfl (qt_assign rfl rfl) (fun _ _ _ h => h) ?_
        refine ga_done (by kernel_rfl) ?_
        try simp only [List.nil_append, List.cons_append, List.append_assoc, List.set_cons_succ, List.set_cons_zero]
        refine gk_pickL [0, 0, 3, 0] ?_
        refine gk_sub ?hs_145 (HJ14 (_, _, _, _, _, _, _, _, _, _, _, _, _, _, _, _, _, _, _, _, _, _, _, _, _, _, _, _, _, _, _, _, _, _, _, _, _, _, _, _, _, _, _))
        case hs_145 => exact (sub_cons rfl (sub_cons rfl (sub_cons rfl (sub_cons rfl (sub_cons rfl (sub_cons rfl (sub_cons rfl (sub_cons rfl (sub_cons rfl (sub_cons rfl sub_nil))))))))))

set_option maxHeartbeats 1000000 in
set_option maxRecDepth 100000 in
theorem big0 (w : World) (v0 : Value) (a0 : Tra) (v1 : Value) (a1 : Tra) (r0 : Tra) (r1 : Int) (h0 : InTr w v0 a0) (h1 : InTr w v1 a1) (nl : ¬ (szTr a0 ≤ 1048576)) :
    Calls Try.prog 9 #[v0, v1] w (RetB w true) := by
  have mz0 := mzTr_le a0
  have I0 := h0
  obtain ⟨px1_0, px2_0, px3_0, px4_0, px5_0, px6_0, px7_0, px8_0, px9_0, px10_0, px11_0, px12_0, px13_0, px14_0, px15_0, px16_0, px17_0, px18_0, px19_0, px20_0, px21_0, pk1_0, pk2_0, pk3_0, pk4_0, pk5_0, pk6_0, pk7_0, pk8_0, pk9_0, pk10_0, pk11_0, pk12_0, pk13_0, pk14_0, pk15_0, pk16_0, pk17_0, pk18_0, pk19_0, pk20_0, pk21_0, rfl, _⟩ := h0.form
  have mz1 := mzTr_le a1
  have I1 := h1
  obtain ⟨px1_1, px2_1, px3_1, px4_1, px5_1, px6_1, px7_1, px8_1, px9_1, px10_1, px11_1, px12_1, px13_1, px14_1, px15_1, px16_1, px17_1, px18_1, px19_1, px20_1, px21_1, pk1_1, pk2_1, pk3_1, pk4_1, pk5_1, pk6_1, pk7_1, pk8_1, pk9_1, pk10_1, pk11_1, pk12_1, pk13_1, pk14_1, pk15_1, pk16_1, pk17_1, pk18_1, pk19_1, pk20_1, pk21_1, rfl, _⟩ := h1.form
  go_enter Try.func9, Try.ntmps9
  refine gc_enter (N := 119) rfl (look_cons (k := 0) rfl (look_cons (k := 1) rfl (look_nil _))) ?_
  refine gc_seq fun K1 hK1 => ?_
  refine gc_region ?_
  refine g_op (.free rfl) fun K3 hK3 => ?_
  refine go_box rfl rfl rfl rfl rfl ?_
  intro B2
  refine hK3 _ _ ?_
  refine g_op (.free rfl) fun K5 hK5 => ?_
  refine go_box rfl rfl rfl rfl rfl ?_
  intro B4
  refine hK5 _ _ ?_
  refine g_v (.free rfl) rfl rfl (qt_assign rfl rfl) ?_
  refine g_nil ?_
  refine gk_then (hK1 _ _ ?_)
  refine gc_seq fun K6 hK6 => ?_
  refine gc_region ?_
  refine g_v (.free rfl) rfl rfl (qt_assign rfl rfl) ?_
  refine g_nil ?_
  refine gk_then (hK6 _ _ ?_)
  refine gc_seq fun K7 hK7 => ?_
  refine gc_region ?_
  refine g_v (.free rfl) rfl rfl (qt_loadS (n := 0) rfl rfl Try.underlying29 rfl (by kernel_rfl) rfl) ?_
  refine g_v (.free rfl) rfl rfl (qt_move rfl rfl) ?_
  refine g_q (.free rfl) rfl rfl (qt_call rfl Try.func13 rfl (by decide) rfl (fun w M => szTr_gt w _ _ _ (inTr_below M.1 I0) (by first | assumption | omega) (by first | assumption | omega) (by first | assumption | omega))) ?_
  refine g_v (.free rfl) rfl rfl (qt_assign rfl rfl) ?_
  refine g_nil ?_
  refine gk_then (hK7 _ _ ?_)
  refine gc_seq fun K8 hK8 => ?_
  refine gc_seq fun K9 hK9 => ?_
  refine gc_region ?_
  refine g_v (.free rfl) rfl rfl (qt_move rfl rfl) ?_
  refine g_v (.free rfl) rfl rfl (qt_lss_t rfl rfl rfl (by decide)) ?_
  refine g_nil ?_
  refine gk_then (hK9 _ _ ?_)
  refine gc_cond_t rfl ?_
  refine gc_seq fun K10 hK10 => ?_
  refine gc_region ?_
  refine g_v (.free rfl) rfl rfl (qt_assign rfl rfl) ?_
  refine g_nil ?_
  refine gk_then (hK10 _ _ ?_)
  refine gc_ret ?_
  refine gk_then_ret ?_
  refine ret_1 rfl rfl  (fun w M => ?_)
  exact ⟨rfl, M.1⟩

set_option maxHeartbeats 1000000 in
set_option maxRecDepth 100000 in
theorem big1 (w : World) (v0 : Value) (a0 : Tra) (v1 : Value) (a1 : Tra) (r0 : Tra) (r1 : Int) (h0 : InTr w v0 a0) (h1 : InTr w v1 a1) (l0 : szTr a0 ≤ 1048576) (nl : ¬ (szTr a0 + szTr a1 ≤ 1048576)) :
    Calls Try.prog 9 #[v0, v1] w (RetB w true) := by
  have mz0 := mzTr_le a0
  have I0 := h0
  obtain ⟨px1_0, px2_0, px3_0, px4_0, px5_0, px6_0, px7_0, px8_0, px9_0, px10_0, px11_0, px12_0, px13_0, px14_0, px15_0, px16_0, px17_0, px18_0, px19_0, px20_0, px21_0, pk1_0, pk2_0, pk3_0, pk4_0, pk5_0, pk6_0, pk7_0, pk8_0, pk9_0, pk10_0, pk11_0, pk12_0, pk13_0, pk14_0, pk15_0, pk16_0, pk17_0, pk18_0, pk19_0, pk20_0, pk21_0, rfl, _⟩ := h0.form
  have mz1 := mzTr_le a1
  have I1 := h1
  obtain ⟨px1_1, px2_1, px3_1, px4_1, px5_1, px6_1, px7_1, px8_1, px9_1, px10_1, px11_1, px12_1, px13_1, px14_1, px15_1, px16_1, px17_1, px18_1, px19_1, px20_1, px21_1, pk1_1, pk2_1, pk3_1, pk4_1, pk5_1, pk6_1, pk7_1, pk8_1, pk9_1, pk10_1, pk11_1, pk12_1, pk13_1, pk14_1, pk15_1, pk16_1, pk17_1, pk18_1, pk19_1, pk20_1, pk21_1, rfl, _⟩ := h1.form
  go_enter Try.func9, Try.ntmps9
  refine gc_enter (N := 119) rfl (look_cons (k := 0) rfl (look_cons (k := 1) rfl (look_nil _))) ?_
  refine gc_seq fun K1 hK1 => ?_
  refine gc_region ?_
  refine g_op (.free rfl) fun K3 hK3 => ?_
  refine go_box rfl rfl rfl rfl rfl ?_
  intro B2
  refine hK3 _ _ ?_
  refine g_op (.free rfl) fun K5 hK5 => ?_
  refine go_box rfl rfl rfl rfl rfl ?_
  intro B4
  refine hK5 _ _ ?_
  refine g_v (.free rfl) rfl rfl (qt_assign rfl rfl) ?_
  refine g_nil ?_
  refine gk_then (hK1 _ _ ?_)
  refine gc_seq fun K6 hK6 => ?_
  refine gc_region ?_
  refine g_v (.free rfl) rfl rfl (qt_assign rfl rfl) ?_
  refine g_nil ?_
  refine gk_then (hK6 _ _ ?_)
  refine gc_seq fun K7 hK7 => ?_
  refine gc_region ?_
  refine g_v (.free rfl) rfl rfl (qt_loadS (n := 0) rfl rfl Try.underlying29 rfl (by kernel_rfl) rfl) ?_
  refine g_v (.free rfl) rfl rfl (qt_move rfl rfl) ?_
  refine g_q (.free rfl) rfl rfl (qt_call rfl Try.func13 rfl (by decide) rfl (fun w M => szTr_le w _ _ _ (inTr_below M.1 I0) (by first | assumption | omega) (by first | assumption | omega) (by first | assumption | omega))) ?_
  refine g_v (.free rfl) rfl rfl (qt_assign rfl rfl) ?_
  refine g_nil ?_
  refine gk_then (hK7 _ _ ?_)
  refine gc_seq fun K8 hK8 => ?_
  refine gc_seq fun K9 hK9 => ?_
  refine gc_region ?_
  refine g_v (.free rfl) rfl rfl (qt_move rfl rfl) ?_
  refine g_v (.free rfl) rfl rfl (qt_lss rfl rfl rfl) ?_
  refine g_nil ?_
  refine gk_then (hK9 _ _ ?_)
  refine gc_cond rfl (fun hc0 => ?_) (fun hc0 => ?_)
  · try simp only [decide_eq_true_eq, decide_eq_false_iff_not, Bool.not_eq_true', Bool.not_eq_false', Bool.not_eq_eq_eq_not, Bool.not_true, Bool.not_false, ne_eq, Decidable.not_not, Classical.not_not] at hc0
    first | (exfalso; omega) | exact absurd rfl hc0 | (simp at hc0)
  · try simp only [decide_eq_true_eq, decide_eq_false_iff_not, Bool.not_eq_true', Bool.not_eq_false', Bool.not_eq_eq_eq_not, Bool.not_true, Bool.not_false, ne_eq, Decidable.not_not, Classical.not_not] at hc0
    refine gc_skip ?_
    refine gk_then (hK8 _ _ ?_)
    refine gc_seq fun K10 hK10 => ?_
    refine gc_region ?_
    refine g_v (.free rfl) rfl rfl (qt_loadS (n := 1) rfl rfl Try.underlying29 rfl (by kernel_rfl) rfl) ?_
    refine g_v (.free rfl) rfl rfl (qt_move rfl rfl) ?_
    refine g_q (.free rfl) rfl rfl (qt_call rfl Try.func13 rfl (by decide) rfl (fun w M => szTr_gt w _ _ _ (inTr_below M.1 I1) (by first | assumption | omega) (by first | assumption | omega) (by first | assumption | omega))) ?_
    refine g_v (.free rfl) rfl rfl (qt_assign rfl rfl) ?_
    refine g_nil ?_
    refine gk_then (hK10 _ _ ?_)
    refine gc_seq fun K11 hK11 => ?_
    refine gc_seq fun K12 hK12 => ?_
    refine gc_region ?_
    refine g_v (.free rfl) rfl rfl (qt_move rfl rfl) ?_
    refine g_v (.free rfl) rfl rfl (qt_lss_t rfl rfl rfl (by decide)) ?_
    refine g_nil ?_
    refine gk_then (hK12 _ _ ?_)
    refine gc_cond_t rfl ?_
    refine gc_seq fun K13 hK13 => ?_
    refine gc_region ?_
    refine g_v (.free rfl) rfl rfl (qt_assign rfl rfl) ?_
    refine g_nil ?_
    refine gk_then (hK13 _ _ ?_)
    refine gc_ret ?_
    refine gk_then_ret ?_
    refine ret_1 rfl rfl  (fun w M => ?_)
    exact ⟨rfl, M.1⟩

theorem walk (w : World) (v0 : Value) (a0 : Tra) (v1 : Value) (a1 : Tra) (r0 : Tra) (r1 : Int) (h0 : InTr w v0 a0) (h1 : InTr w v1 a1) (hr0 : mzTr r0 ≤ 7500000000000000) (hspec : (∀ (w : World) (v0 : Value) (v1 : Value), RdTr w v0 a0 → RdTr w v1 a1 → Calls Try.prog 34 #[v0, v1] w (RetTrI w r0 r1))) (himpl : (∀ (w : World) (v0 : Value) (v1 : Value), RdTr w v0 a0 → RdTr w v1 a1 → Calls Try.prog 35 #[v0, v1] w (RetTrI w r0 r1))) :
    Calls Try.prog 9 #[v0, v1] w (RetB w true) := by
  by_cases l0 : szTr a0 ≤ 1048576
  rotate_left
  · exact big0 w v0 a0 v1 a1 r0 r1 h0 h1 l0
  by_cases l1 : szTr a0 + szTr a1 ≤ 1048576
  rotate_left
  · exact big1 w v0 a0 v1 a1 r0 r1 h0 h1 l0 l1
  exact main w v0 a0 v1 a1 r0 r1 h0 l0 h1 l1 hr0 hspec himpl

set_option maxHeartbeats 4000000 in
set_option maxRecDepth 100000 in
theorem lifted (os : Os) (started : os.Started) (H : Type) (enc : TypeId × Value → H) :
    ReturnsInHanded {} Try.checked os 9 .any (Rows.fnExactHorizontalCompositeSpec.pre6 enc Try.prog Try.f9 Rows.fnExactHorizontalCompositeRow.domain false) (Rows.fnExactHorizontalCompositeSpec.post enc Try.prog Try.f9 false true false false) := by
  refine returnsInHanded_of_change (C := Try.checked) own started (by kernel_rfl) Try.func9
    (ChangeSpec.witness6 (enc := enc) (C := Try.checked) false ⟨#[], #[.agg #[.int .i64 0, .slice none 0 0, .slice none 0 0, .slice none 0 0, .slice none 0 0, .int .i64 0, .slice none 0 0, .slice none 0 0, .slice none 0 0, .slice none 0 0, .slice none 0 0, .slice none 0 0, .int .i64 0, .slice none 0 0, .slice none 0 0, .slice none 0 0, .slice none 0 0, .int .i64 0, .slice none 0 0, .slice none 0 0, .slice none 0 0, .slice none 0 0, .slice none 0 0, .slice none 0 0, .slice none 0 0], .agg #[.int .i64 0, .slice none 0 0, .slice none 0 0, .slice none 0 0, .slice none 0 0, .int .i64 0, .slice none 0 0, .slice none 0 0, .slice none 0 0, .slice none 0 0, .slice none 0 0, .slice none 0 0, .int .i64 0, .slice none 0 0, .slice none 0 0, .slice none 0 0, .slice none 0 0, .int .i64 0, .slice none 0 0, .slice none 0 0, .slice none 0 0, .slice none 0 0, .slice none 0 0, .slice none 0 0, .slice none 0 0]], []⟩ 8 (by kernel_rfl) (by kernel_rfl) (by kernel_rfl) (by kernel_rfl)) ?_
  intro W base args ds gs before hval0 hW _ _
  have hval : ∀ (j : Nat) t v, Try.f9.params[j]? = some t → args[j]? = some v → Value.okWide Try.prog W .any base t v := hval0
  have hW' := hW
  obtain ⟨p, q, hA0, hV, rfl, _, _⟩ := hW
  have hA : DataW.TrodAll enc Try.prog W 0 (fun _ => true) true Try.f9.params.toList args.toList ds p := hA0
  rw [Try.params9] at hA hval
  obtain ⟨v0, vs0, d0, ds0, p0, q0, hargs, rfl, rfl, t0, s0⟩ := trodAll_cons hA
  obtain ⟨v1, vs1, d1, ds1, p1, q1, rfl, rfl, rfl, t1, s1⟩ := trodAll_cons s0
  obtain ⟨rfl, rfl, rfl⟩ := trodAll_nil s1
  obtain rfl : args = #[v0, v1] := by cases args; simp_all
  obtain ⟨rfl, rfl⟩ := trodVars_none hV
  obtain ⟨a0, h0⟩ := open_inTr (hval 0 29 v0 rfl rfl) t0
  obtain ⟨a1, h1⟩ := open_inTr (hval 1 29 v1 rfl rfl) t1
  clear hA0 hval0
  refine (walk W v0 a0 v1 a1 (fHorizontalComposite a0 a1).1 (fHorizontalComposite a0 a1).2 h0 h1 (bound_HorizontalComposite a0 a1) (fun u v0 v1 k0 k1 => spec_HorizontalComposite u v0 a0 v1 a1 k0 k1) (fun u v0 v1 k0 k1 => impl_HorizontalComposite u v0 a0 v1 a1 k0 k1)).mono fun e W' ⟨he, hg⟩ => ?_
  subst he
  exact ⟨_, rfl, law_post rfl (by kernel_rfl) hW' (by kernel_rfl) rfl rfl rfl hg⟩

theorem over : Rows.fnExactHorizontalCompositeRow.holds Try.pinned (OpenSpec.ofChange Rows.fnExactHorizontalCompositeSpec) :=
  OpenClaim.holds_of_wide 9 Try.f9 rfl rfl rfl rfl rfl rfl rfl ⟨rfl, rfl, rfl, rfl, rfl⟩ rfl rfl rfl rfl rfl (by kernel_rfl) Try.func9 (by kernel_rfl)
    (of_decide_eq_true (by kernel_rfl)) (by unfold Func.isWrapper; first | (rw [if_pos (by decide +kernel)]; kernel_rfl) | (rw [if_neg (by decide +kernel)]; exact ⟨rfl, rfl⟩))
    (fun os started H enc _ => lifted os started H enc)

theorem proved : Rows.FnExactHorizontalCompositeSaid := over
end Go.Proofs.Ytpppoipaabofgaa.exactHorizontalComposite
