
/- The exact law of CountNumberings: its model and its program do the same, in memory of their own. Written by wip/tools/genlaw.py. -/
import Derived.Test.YtgkfampgofjkfaaBase
import Derived.Test.YtgkfampgofjkfaaLawC
import Derived.Test.YtgkfampgofjkfaaRul4
import Derived.Test.YtgkfampgofjkfaaCntX
set_option linter.unusedSimpArgs false
set_option linter.unusedVariables false
set_option linter.unusedSectionVars false
namespace Go.Proofs.Ytgkfampgofjkfaa.exactCountNumberings
open Go.ChangeShapes Go.WideShapes Go.ChangeAt Go.RowKit
set_option maxHeartbeats 4000000 in
set_option maxRecDepth 100000 in
theorem main (w : World) (v0 : Value) (a0 : Cat) (r0 : Int) (r1 : Int) (h0 : InC w v0 a0) (l0 : szM a0 ≤ 1048576) (hspec : (∀ (w : World) (v0 : Value), RdC w v0 a0 → Calls Try.prog 20 #[v0] w (RetII w r0 r1))) (himpl : (∀ (w : World) (v0 : Value), RdC w v0 a0 → Calls Try.prog 21 #[v0] w (RetII w r0 r1))) :
    Calls Try.prog 5 #[v0] w (RetB w true) := by
  have R0 := h0.rd (by omega)
  have I0 := h0
  obtain ⟨pa0, pb0, pc0, pd0, pe0, pf0, pg0, ph0, rfl⟩ := h0.form
  have mz0 := mz_le a0
  go_enter Try.func5, Try.ntmps5
  refine gc_enter (N := 40) rfl (look_cons (k := 0) rfl (look_nil _)) ?_
  refine gc_seq fun K1 hK1 => ?_
  refine gc_region ?_
  refine g_op (.free rfl) fun K3 hK3 => ?_
  refine go_box rfl rfl rfl rfl rfl ?_
  intro B2
  refine hK3 _ _ ?_
  refine g_v (.free rfl) rfl rfl (qt_assign rfl rfl) ?_
  refine g_nil ?_
  refine gk_then (hK1 _ _ ?_)
  refine gc_seq fun K4 hK4 => ?_
  refine gc_region ?_
  refine g_v (.free rfl) rfl rfl (qt_assign rfl rfl) ?_
  refine g_nil ?_
  refine gk_then (hK4 _ _ ?_)
  refine gc_seq fun K5 hK5 => ?_
  refine gc_region ?_
  refine g_v (.free rfl) rfl rfl (qt_loadS (n := 0) rfl rfl Try.underlying25 rfl (by kernel_rfl) rfl) ?_
  refine g_v (.free rfl) rfl rfl (qt_move rfl rfl) ?_
  refine g_q (.free rfl) rfl rfl (qt_call rfl Try.func8 rfl (by decide) rfl (fun w M => szC_le w _ _ _ (inC_below M.1 I0) (by first | assumption | omega) (by first | assumption | omega) (by first | assumption | omega))) ?_
  refine g_v (.free rfl) rfl rfl (qt_assign rfl rfl) ?_
  refine g_nil ?_
  refine gk_then (hK5 _ _ ?_)
  refine gc_seq fun K6 hK6 => ?_
  refine gc_seq fun K7 hK7 => ?_
  refine gc_region ?_
  refine g_v (.free rfl) rfl rfl (qt_move rfl rfl) ?_
  refine g_v (.free rfl) rfl rfl (qt_lss rfl rfl rfl) ?_
  refine g_nil ?_
  refine gk_then (hK7 _ _ ?_)
  refine gc_cond rfl (fun hc0 => ?_) (fun hc0 => ?_)
  · try simp only [decide_eq_true_eq, decide_eq_false_iff_not, Bool.not_eq_true', Bool.not_eq_false', Bool.not_eq_eq_eq_not, Bool.not_true, Bool.not_false, ne_eq, Decidable.not_not, Classical.not_not] at hc0
    first | (exfalso; omega) | exact absurd rfl hc0 | (simp at hc0)
  · try simp only [decide_eq_true_eq, decide_eq_false_iff_not, Bool.not_eq_true', Bool.not_eq_false', Bool.not_eq_eq_eq_not, Bool.not_true, Bool.not_false, ne_eq, Decidable.not_not, Classical.not_not] at hc0
    refine gc_skip ?_
    refine gk_then (hK6 _ _ ?_)
    refine gc_seq fun K8 hK8 => ?_
    refine gc_region ?_
    refine g_v (.free rfl) rfl rfl (qt_loadS (n := 0) rfl rfl Try.underlying25 rfl (by kernel_rfl) rfl) ?_
    refine g_op (.free rfl) fun K10 hK10 => ?_
    refine go_callC1 rfl rfl rfl Try.func10 rfl (by decide) rfl (fun w M => toC_any w _ _ (mem_rdC M R0)) ?_
    intro ca9 cb9 cc9 cd9 ce9 cf9 cg9 ch9
    refine hK10 _ _ ?_
    refine g_q (.free rfl) rfl rfl (qt_call rfl Try.func20 rfl (by decide) rfl (fun w M => hspec w _ ((mem_ownC (n := 1) M rfl).rd))) ?_
    refine g_v (.free rfl) rfl rfl (qt_move rfl rfl) ?_
    refine g_v (.free rfl) rfl rfl (qt_extract rfl rfl rfl) ?_
    refine g_v (.free rfl) rfl rfl (qt_extract rfl rfl rfl) ?_
    refine g_v (.free rfl) rfl rfl (qt_assign rfl rfl) ?_
    refine g_v (.free rfl) rfl rfl (qt_assign rfl rfl) ?_
    refine g_nil ?_
    refine gk_then (hK8 _ _ ?_)
    refine gc_seq fun K11 hK11 => ?_
    refine gc_region ?_
    refine g_v (.free rfl) rfl rfl (qt_loadS (n := 0) rfl rfl Try.underlying25 rfl (by kernel_rfl) rfl) ?_
    refine g_op (.free rfl) fun K13 hK13 => ?_
    refine go_callC1 rfl rfl rfl Try.func10 rfl (by decide) rfl (fun w M => toC_any w _ _ (mem_rdC M R0)) ?_
    intro ca12 cb12 cc12 cd12 ce12 cf12 cg12 ch12
    refine hK13 _ _ ?_
    refine g_op (.free rfl) fun K15 hK15 => ?_
    refine go_alloc (z := (.agg #[.int .i64 0, .slice none 0 0, .slice none 0 0, .slice none 0 0, .slice none 0 0])) (cs := [.int .i64 0, .slice none 0 0, .slice none 0 0, .slice none 0 0, .slice none 0 0]) rfl rfl rfl (fun w => by kernel_rfl) rfl ?_
    intro B14
    refine hK15 _ _ ?_
    refine g_op (.free rfl) fun K16 hK16 => ?_
    refine go_storeS (n := 3) rfl rfl rfl rfl (by kernel_rfl) rfl rfl rfl ?_
    refine hK16 _ _ ?_
    refine g_nil ?_
    refine gk_then (hK11 _ _ ?_)
    refine gc_seq fun K17 hK17 => ?_
    refine gc_region ?_
    refine g_v (.free rfl) rfl rfl (qt_loadS (n := 3) rfl rfl Try.underlying27 rfl (by kernel_rfl) rfl) ?_
    refine g_q (.free rfl) rfl rfl (qt_call rfl Try.func21 rfl (by decide) rfl (fun w M => himpl w _ ((mem_ownC (n := 2) M rfl).rd))) ?_
    refine g_v (.free rfl) rfl rfl (qt_move rfl rfl) ?_
    refine g_v (.free rfl) rfl rfl (qt_extract rfl rfl rfl) ?_
    refine g_v (.free rfl) rfl rfl (qt_extract rfl rfl rfl) ?_
    refine g_v (.free rfl) rfl rfl (qt_assign rfl rfl) ?_
    refine g_v (.free rfl) rfl rfl (qt_assign rfl rfl) ?_
    refine g_nil ?_
    refine gk_then (hK17 _ _ ?_)
    refine gc_seq fun K18 hK18 => ?_
    refine gc_seq fun K19 hK19 => ?_
    refine gc_region ?_
    refine g_v (.free rfl) rfl rfl (qt_move rfl rfl) ?_
    refine g_v (.free rfl) rfl rfl (qt_move rfl rfl) ?_
    refine g_v (.free rfl) rfl rfl (qt_neq_f rfl rfl rfl (fun h => h rfl)) ?_
    refine g_v (.free rfl) rfl rfl (qt_move rfl rfl) ?_
    refine g_v (.held _ _ _ rfl rfl rfl) rfl rfl (qt_move rfl rfl) ?_
    refine g_v (.held _ _ _ rfl rfl rfl) rfl rfl (qt_move rfl rfl) ?_
    refine g_v (.held _ _ _ rfl rfl rfl) rfl rfl (qt_neq_f rfl rfl rfl (fun h => h rfl)) ?_
    refine g_v (.free rfl) rfl rfl (qt_pick_f rfl rfl rfl) ?_
    refine g_nil ?_
    refine gk_then (hK19 _ _ ?_)
    refine gc_cond_f rfl ?_
    refine gc_skip ?_
    refine gk_then (hK18 _ _ ?_)
    refine gc_seq fun K20 hK20 => ?_
    refine gc_seq fun K21 hK21 => ?_
    try simp only [List.nil_append, List.cons_append, List.append_assoc, List.set_cons_succ, List.set_cons_zero]
    refine ga_start _ (fun w M => M) ?_
    refine ga_v 0 rfl (by kernel_rfl) (by kernel_rfl) (by kernel_rfl) (.free rfl) rfl rfl (qt_loadS (n := 3) rfl rfl Try.underlying27 rfl (by kernel_rfl) rfl) (fun _ _ _ h => h) ?_
    refine ga_v 1 rfl (by kernel_rfl) (by kernel_rfl) (by kernel_rfl) (.free rfl) rfl rfl (qt_loadS (n := 0) rfl rfl Try.underlying25 rfl (by kernel_rfl) rfl) (fun _ _ _ h => h) ?_
    refine ga_op 2 (by kernel_rfl) rfl (.free rfl) fun K23 hK23 => ?_
    refine go_callC1 rfl rfl rfl Try.func10 rfl (by decide) rfl (fun w M => toC_any w _ _ (mem_rdC M R0)) ?_
    intro ca22 cb22 cc22 cd22 ce22 cf22 cg22 ch22
    refine hK23 _ _ (fun w M => (mem_take 4 M :)) ?_
    refine ga_op 3 (by kernel_rfl) rfl (.free rfl) fun K24 hK24 => ?_
    refine go_q rfl rfl (qt_call rfl Try.func13 rfl (by decide) rfl (fun w M => eqC_refl_any w _ _ _ ((mem_ownC (n := 2) M rfl).rd) ((mem_ownC (n := 4) M rfl).rd))) ?_
    refine hK24 _ _ (fun w M => (mem_take 4 M :)) ?_
    refine ga_v 4 rfl (by kernel_rfl) (by kernel_rfl) (by kernel_rfl) (.free rfl) rfl rfl (qt_not rfl rfl) (fun _ _ _ h => h) ?_
    refine ga_done (by kernel_rfl) ?_
    refine gk_then (hK21 _ _ ?_)
    refine gc_cond_f rfl ?_
    refine gc_skip ?_
    refine gk_then (hK20 _ _ ?_)
    refine gc_seq fun K25 hK25 => ?_
    refine gc_region ?_
    refine g_v (.free rfl) rfl rfl (qt_assign rfl rfl) ?_
    refine g_nil ?_
    refine gk_then (hK25 _ _ ?_)
    refine gc_ret ?_
    refine ret_1 rfl rfl  (fun w M => ?_)
    exact ⟨rfl, M.1⟩

set_option maxHeartbeats 1000000 in
set_option maxRecDepth 100000 in
theorem big0 (w : World) (v0 : Value) (a0 : Cat) (r0 : Int) (r1 : Int) (h0 : InC w v0 a0) (nl : ¬ (szM a0 ≤ 1048576)) :
    Calls Try.prog 5 #[v0] w (RetB w true) := by
  have I0 := h0
  obtain ⟨pa0, pb0, pc0, pd0, pe0, pf0, pg0, ph0, rfl⟩ := h0.form
  have mz0 := mz_le a0
  go_enter Try.func5, Try.ntmps5
  refine gc_enter (N := 40) rfl (look_cons (k := 0) rfl (look_nil _)) ?_
  refine gc_seq fun K1 hK1 => ?_
  refine gc_region ?_
  refine g_op (.free rfl) fun K3 hK3 => ?_
  refine go_box rfl rfl rfl rfl rfl ?_
  intro B2
  refine hK3 _ _ ?_
  refine g_v (.free rfl) rfl rfl (qt_assign rfl rfl) ?_
  refine g_nil ?_
  refine gk_then (hK1 _ _ ?_)
  refine gc_seq fun K4 hK4 => ?_
  refine gc_region ?_
  refine g_v (.free rfl) rfl rfl (qt_assign rfl rfl) ?_
  refine g_nil ?_
  refine gk_then (hK4 _ _ ?_)
  refine gc_seq fun K5 hK5 => ?_
  refine gc_region ?_
  refine g_v (.free rfl) rfl rfl (qt_loadS (n := 0) rfl rfl Try.underlying25 rfl (by kernel_rfl) rfl) ?_
  refine g_v (.free rfl) rfl rfl (qt_move rfl rfl) ?_
  refine g_q (.free rfl) rfl rfl (qt_call rfl Try.func8 rfl (by decide) rfl (fun w M => szC_gt w _ _ _ (inC_below M.1 I0) (by first | assumption | omega) (by first | assumption | omega) (by first | assumption | omega))) ?_
  refine g_v (.free rfl) rfl rfl (qt_assign rfl rfl) ?_
  refine g_nil ?_
  refine gk_then (hK5 _ _ ?_)
  refine gc_seq fun K6 hK6 => ?_
  refine gc_seq fun K7 hK7 => ?_
  refine gc_region ?_
  refine g_v (.free rfl) rfl rfl (qt_move rfl rfl) ?_
  refine g_v (.free rfl) rfl rfl (qt_lss_t rfl rfl rfl (by decide)) ?_
  refine g_nil ?_
  refine gk_then (hK7 _ _ ?_)
  refine gc_cond_t rfl ?_
  refine gc_seq fun K8 hK8 => ?_
  refine gc_region ?_
  refine g_v (.free rfl) rfl rfl (qt_assign rfl rfl) ?_
  refine g_nil ?_
  refine gk_then (hK8 _ _ ?_)
  refine gc_ret ?_
  refine gk_then_ret ?_
  refine ret_1 rfl rfl  (fun w M => ?_)
  exact ⟨rfl, M.1⟩

theorem walk (w : World) (v0 : Value) (a0 : Cat) (r0 : Int) (r1 : Int) (h0 : InC w v0 a0) (hspec : (∀ (w : World) (v0 : Value), RdC w v0 a0 → Calls Try.prog 20 #[v0] w (RetII w r0 r1))) (himpl : (∀ (w : World) (v0 : Value), RdC w v0 a0 → Calls Try.prog 21 #[v0] w (RetII w r0 r1))) :
    Calls Try.prog 5 #[v0] w (RetB w true) := by
  by_cases l0 : szM a0 ≤ 1048576
  rotate_left
  · exact big0 w v0 a0 r0 r1 h0 l0
  exact main w v0 a0 r0 r1 h0 l0 hspec himpl

set_option maxHeartbeats 4000000 in
set_option maxRecDepth 100000 in
theorem lifted (os : Os) (started : os.Started) (H : Type) (enc : TypeId × Value → H) :
    ReturnsInHanded {} Try.checked os 5 .any (Rows.fnExactCountNumberingsSpec.pre6 enc Try.prog Try.f5 Rows.fnExactCountNumberingsRow.domain false) (Rows.fnExactCountNumberingsSpec.post enc Try.prog Try.f5 false true false false) := by
  refine returnsInHanded_of_change (C := Try.checked) own started (by kernel_rfl) Try.func5
    (ChangeSpec.witness6 (enc := enc) (C := Try.checked) false ⟨#[], #[.agg #[.int .i64 0, .slice none 0 0, .slice none 0 0, .slice none 0 0, .slice none 0 0]], []⟩ 8 (by kernel_rfl) (by kernel_rfl) (by kernel_rfl) (by kernel_rfl)) ?_
  intro W base args ds gs before hval0 hW _ _
  have hval : ∀ (j : Nat) t v, Try.f5.params[j]? = some t → args[j]? = some v → Value.okWide Try.prog W .any base t v := hval0
  have hW' := hW
  obtain ⟨p, q, hA0, hV, rfl, _, _⟩ := hW
  have hA : DataW.TrodAll enc Try.prog W 0 (fun _ => true) true Try.f5.params.toList args.toList ds p := hA0
  rw [Try.params5] at hA hval
  obtain ⟨v0, vs0, d0, ds0, p0, q0, hargs, rfl, rfl, t0, s0⟩ := trodAll_cons hA
  obtain ⟨rfl, rfl, rfl⟩ := trodAll_nil s0
  obtain rfl : args = #[v0] := by cases args; simp_all
  obtain ⟨rfl, rfl⟩ := trodVars_none hV
  obtain ⟨a0, h0⟩ := open_inC (hval 0 25 v0 rfl rfl) t0
  clear hA0 hval0
  refine (walk W v0 a0 (fCountNumberings a0).1 (fCountNumberings a0).2 h0 (fun u v0 k0 => spec_CountNumberings u v0 a0 k0) (fun u v0 k0 => impl_CountNumberings u v0 a0 k0)).mono fun e W' ⟨he, hg⟩ => ?_
  subst he
  exact ⟨_, rfl, law_post rfl (by kernel_rfl) hW' (by kernel_rfl) rfl rfl rfl hg⟩

theorem over : Rows.fnExactCountNumberingsRow.holds Try.pinned (OpenSpec.ofChange Rows.fnExactCountNumberingsSpec) :=
  OpenClaim.holds_of_wide 5 Try.f5 rfl rfl rfl rfl rfl rfl rfl ⟨rfl, rfl, rfl, rfl, rfl⟩ rfl rfl rfl rfl rfl (by kernel_rfl) Try.func5 (by kernel_rfl)
    (of_decide_eq_true (by kernel_rfl)) (by unfold Func.isWrapper; first | (rw [if_pos (by decide +kernel)]; kernel_rfl) | (rw [if_neg (by decide +kernel)]; exact ⟨rfl, rfl⟩))
    (fun os started H enc _ => lifted os started H enc)

theorem proved : Rows.FnExactCountNumberingsSaid := over
end Go.Proofs.Ytgkfampgofjkfaa.exactCountNumberings
