
/- The exact law of IsNaturalIsomorphism: its model and its program do the same, in memory of their own. Written by wip/tools/genlaw.py. -/
import Derived.Test.YtpppoipaabofgaaBase
import Derived.Test.YtpppoipaabofgaaLawC
import Derived.Test.YtpppoipaabofgaaRul4
import Derived.Test.YtpppoipaabofgaaTriX
set_option linter.unusedSimpArgs false
set_option linter.unusedVariables false
set_option linter.unusedSectionVars false
namespace Go.Proofs.Ytpppoipaabofgaa.exactIsNaturalIsomorphism
open Go.ChangeShapes Go.WideShapes Go.ChangeAt Go.RowKit
set_option maxHeartbeats 4000000 in
set_option maxRecDepth 100000 in
theorem main (w : World) (v0 : Value) (a0 : Tra) (r0 : Bool) (r1 : Int) (h0 : InTr w v0 a0) (l0 : szTr a0 ≤ 1048576) (hspec : (∀ (w : World) (v0 : Value), RdTr w v0 a0 → Calls Try.prog 36 #[v0] w (RetBI w r0 r1))) (himpl : (∀ (w : World) (v0 : Value), RdTr w v0 a0 → Calls Try.prog 37 #[v0] w (RetBI w r0 r1))) :
    Calls Try.prog 10 #[v0] w (RetB w true) := by
  have R0 := h0.rd (by omega)
  have mz0 := mzTr_le a0
  have I0 := h0
  obtain ⟨px1_0, px2_0, px3_0, px4_0, px5_0, px6_0, px7_0, px8_0, px9_0, px10_0, px11_0, px12_0, px13_0, px14_0, px15_0, px16_0, px17_0, px18_0, px19_0, px20_0, px21_0, pk1_0, pk2_0, pk3_0, pk4_0, pk5_0, pk6_0, pk7_0, pk8_0, pk9_0, pk10_0, pk11_0, pk12_0, pk13_0, pk14_0, pk15_0, pk16_0, pk17_0, pk18_0, pk19_0, pk20_0, pk21_0, rfl, _⟩ := h0.form
  go_enter Try.func10, Try.ntmps10
  refine gc_enter (N := 40) rfl (look_cons (k := 0) rfl (look_nil _)) ?_
  refine gc_seq fun K1 hK1 => ?_
  refine gc_region ?_
  refine g_op (.free rfl) fun K3 hK3 => ?_
  refine go_box rfl rfl rfl rfl rfl ?_
  intro B2
  refine hK3 _ _ ?_
  refine g_v (.free rfl) rfl rfl (qt_assign rfl rfl) ?_
  refine g_nil ?_
  refine gk_then (hK1 _ _ ?_)
  refine gc_seq fun K4 hK4 => ?_
  refine gc_region ?_
  refine g_v (.free rfl) rfl rfl (qt_assign rfl rfl) ?_
  refine g_nil ?_
  refine gk_then (hK4 _ _ ?_)
  refine gc_seq fun K5 hK5 => ?_
  refine gc_region ?_
  refine g_v (.free rfl) rfl rfl (qt_loadS (n := 0) rfl rfl Try.underlying29 rfl (by kernel_rfl) rfl) ?_
  refine g_v (.free rfl) rfl rfl (qt_move rfl rfl) ?_
  refine g_q (.free rfl) rfl rfl (qt_call rfl Try.func13 rfl (by decide) rfl (fun w M => szTr_le w _ _ _ (inTr_below M.1 I0) (by first | assumption | omega) (by first | assumption | omega) (by first | assumption | omega))) ?_
  refine g_v (.free rfl) rfl rfl (qt_assign rfl rfl) ?_
  refine g_nil ?_
  refine gk_then (hK5 _ _ ?_)
  refine gc_seq fun K6 hK6 => ?_
  refine gc_seq fun K7 hK7 => ?_
  refine gc_region ?_
  refine g_v (.free rfl) rfl rfl (qt_move rfl rfl) ?_
  refine g_v (.free rfl) rfl rfl (qt_lss rfl rfl rfl) ?_
  refine g_nil ?_
  refine gk_then (hK7 _ _ ?_)
  refine gc_cond rfl (fun hc0 => ?_) (fun hc0 => ?_)
  · try simp only [decide_eq_true_eq, decide_eq_false_iff_not, Bool.not_eq_true', Bool.not_eq_false', Bool.not_eq_eq_eq_not, Bool.not_true, Bool.not_false, ne_eq, Decidable.not_not, Classical.not_not] at hc0
    first | (exfalso; omega) | exact absurd rfl hc0 | (simp at hc0)
  · try simp only [decide_eq_true_eq, decide_eq_false_iff_not, Bool.not_eq_true', Bool.not_eq_false', Bool.not_eq_eq_eq_not, Bool.not_true, Bool.not_false, ne_eq, Decidable.not_not, Classical.not_not] at hc0
    refine gc_skip ?_
    refine gk_then (hK6 _ _ ?_)
    refine gc_seq fun K8 hK8 => ?_
    refine gc_region ?_
    refine g_v (.free rfl) rfl rfl (qt_loadS (n := 0) rfl rfl Try.underlying29 rfl (by kernel_rfl) rfl) ?_
    refine g_op (.free rfl) fun K10 hK10 => ?_
    refine go_callTr rfl rfl rfl Try.func15 rfl (by decide) rfl (fun w M => toTr_any w _ _ (mem_rdTr M R0)) ?_
    intro tx1_9 tk1_9 tx2_9 tk2_9 tx3_9 tk3_9 tx4_9 tk4_9 tx5_9 tk5_9 tx6_9 tk6_9 tx7_9 tk7_9 tx8_9 tk8_9 tx9_9 tk9_9 tx10_9 tk10_9 tx11_9 tk11_9 tx12_9 tk12_9 tx13_9 tk13_9 tx14_9 tk14_9 tx15_9 tk15_9 tx16_9 tk16_9 tx17_9 tk17_9 tx18_9 tk18_9 tx19_9 tk19_9 tx20_9 tk20_9 tx21_9 tk21_9
    refine hK10 _ _ ?_
    refine g_q (.free rfl) rfl rfl (qt_call rfl Try.func36 rfl (by decide) rfl (fun w M => hspec w _ ((mem_ownTr (n := 1) M rfl).rd))) ?_
    refine g_v (.free rfl) rfl rfl (qt_move rfl rfl) ?_
    refine g_v (.free rfl) rfl rfl (qt_extract rfl rfl rfl) ?_
    refine g_v (.free rfl) rfl rfl (qt_extract rfl rfl rfl) ?_
    refine g_v (.free rfl) rfl rfl (qt_assign rfl rfl) ?_
    refine g_v (.free rfl) rfl rfl (qt_assign rfl rfl) ?_
    refine g_nil ?_
    refine gk_then (hK8 _ _ ?_)
    refine gc_seq fun K11 hK11 => ?_
    refine gc_region ?_
    refine g_v (.free rfl) rfl rfl (qt_loadS (n := 0) rfl rfl Try.underlying29 rfl (by kernel_rfl) rfl) ?_
    refine g_op (.free rfl) fun K13 hK13 => ?_
    refine go_callTr rfl rfl rfl Try.func15 rfl (by decide) rfl (fun w M => toTr_any w _ _ (mem_rdTr M R0)) ?_
    intro tx1_12 tk1_12 tx2_12 tk2_12 tx3_12 tk3_12 tx4_12 tk4_12 tx5_12 tk5_12 tx6_12 tk6_12 tx7_12 tk7_12 tx8_12 tk8_12 tx9_12 tk9_12 tx10_12 tk10_12 tx11_12 tk11_12 tx12_12 tk12_12 tx13_12 tk13_12 tx14_12 tk14_12 tx15_12 tk15_12 tx16_12 tk16_12 tx17_12 tk17_12 tx18_12 tk18_12 tx19_12 tk19_12 tx20_12 tk20_12 tx21_12 tk21_12
    refine hK13 _ _ ?_
    refine g_op (.free rfl) fun K15 hK15 => ?_
    refine go_alloc (z := (.agg #[.int .i64 0, .slice none 0 0, .slice none 0 0, .slice none 0 0, .slice none 0 0, .int .i64 0, .slice none 0 0, .slice none 0 0, .slice none 0 0, .slice none 0 0, .slice none 0 0, .slice none 0 0, .int .i64 0, .slice none 0 0, .slice none 0 0, .slice none 0 0, .slice none 0 0, .int .i64 0, .slice none 0 0, .slice none 0 0, .slice none 0 0, .slice none 0 0, .slice none 0 0, .slice none 0 0, .slice none 0 0])) (cs := [.int .i64 0, .slice none 0 0, .slice none 0 0, .slice none 0 0, .slice none 0 0, .int .i64 0, .slice none 0 0, .slice none 0 0, .slice none 0 0, .slice none 0 0, .slice none 0 0, .slice none 0 0, .int .i64 0, .slice none 0 0, .slice none 0 0, .slice none 0 0, .slice none 0 0, .int .i64 0, .slice none 0 0, .slice none 0 0, .slice none 0 0, .slice none 0 0, .slice none 0 0, .slice none 0 0, .slice none 0 0]) rfl rfl rfl (fun w => by kernel_rfl) rfl ?_
    intro B14
    refine hK15 _ _ ?_
    refine g_op (.free rfl) fun K16 hK16 => ?_
    refine go_storeS (n := 3) rfl rfl rfl rfl (by kernel_rfl) rfl rfl rfl ?_
    refine hK16 _ _ ?_
    refine g_nil ?_
    refine gk_then (hK11 _ _ ?_)
    refine gc_seq fun K17 hK17 => ?_
    refine gc_region ?_
    refine g_v (.free rfl) rfl rfl (qt_loadS (n := 3) rfl rfl Try.underlying36 rfl (by kernel_rfl) rfl) ?_
    refine g_q (.free rfl) rfl rfl (qt_call rfl Try.func37 rfl (by decide) rfl (fun w M => himpl w _ ((mem_ownTr (n := 2) M rfl).rd))) ?_
    refine g_v (.free rfl) rfl rfl (qt_move rfl rfl) ?_
    refine g_v (.free rfl) rfl rfl (qt_extract rfl rfl rfl) ?_
    refine g_v (.free rfl) rfl rfl (qt_extract rfl rfl rfl) ?_
    refine g_v (.free rfl) rfl rfl (qt_assign rfl rfl) ?_
    refine g_v (.free rfl) rfl rfl (qt_assign rfl rfl) ?_
    refine g_nil ?_
    refine gk_then (hK17 _ _ ?_)
    refine gc_seq fun K18 hK18 => ?_
    refine gc_seq fun K19 hK19 => ?_
    refine gc_region ?_
    refine g_v (.free rfl) rfl rfl (qt_move rfl rfl) ?_
    refine g_v (.free rfl) rfl rfl (qt_move rfl rfl) ?_
    refine g_v (.free rfl) rfl rfl (qt_neB rfl rfl rfl Try.underlying4) ?_
    refine g_v (.free rfl) rfl rfl (qt_move rfl rfl) ?_
    refine g_v (.held _ _ _ rfl rfl rfl) rfl rfl (qt_move rfl rfl) ?_
    refine g_v (.held _ _ _ rfl rfl rfl) rfl rfl (qt_move rfl rfl) ?_
    refine g_v (.held _ _ _ rfl rfl rfl) rfl rfl (qt_neq_f rfl rfl rfl (fun h => h rfl)) ?_
    refine g_v (.free rfl) rfl rfl (qt_pick_f rfl rfl rfl) ?_
    refine g_nil ?_
    refine gk_then (hK19 _ _ ?_)
    refine gc_cond_f rfl ?_
    refine gc_skip ?_
    refine gk_then (hK18 _ _ ?_)
    refine gc_seq fun K20 hK20 => ?_
    refine gc_seq fun K21 hK21 => ?_
    try simp only [List.nil_append, List.cons_append, List.append_assoc, List.set_cons_succ, List.set_cons_zero]
    refine ga_start _ (fun w M => M) ?_
    refine ga_v 0 rfl (by kernel_rfl) (by kernel_rfl) (by kernel_rfl) (.free rfl) rfl rfl (qt_loadS (n := 3) rfl rfl Try.underlying36 rfl (by kernel_rfl) rfl) (fun _ _ _ h => h) ?_
    refine ga_v 1 rfl (by kernel_rfl) (by kernel_rfl) (by kernel_rfl) (.free rfl) rfl rfl (qt_loadS (n := 0) rfl rfl Try.underlying29 rfl (by kernel_rfl) rfl) (fun _ _ _ h => h) ?_
    refine ga_op 2 (by kernel_rfl) rfl (.free rfl) fun K23 hK23 => ?_
    refine go_callTr rfl rfl rfl Try.func15 rfl (by decide) rfl (fun w M => toTr_any w _ _ (mem_rdTr M R0)) ?_
    intro tx1_22 tk1_22 tx2_22 tk2_22 tx3_22 tk3_22 tx4_22 tk4_22 tx5_22 tk5_22 tx6_22 tk6_22 tx7_22 tk7_22 tx8_22 tk8_22 tx9_22 tk9_22 tx10_22 tk10_22 tx11_22 tk11_22 tx12_22 tk12_22 tx13_22 tk13_22 tx14_22 tk14_22 tx15_22 tk15_22 tx16_22 tk16_22 tx17_22 tk17_22 tx18_22 tk18_22 tx19_22 tk19_22 tx20_22 tk20_22 tx21_22 tk21_22
    refine hK23 _ _ (fun w M => (mem_take 4 M :)) ?_
    refine ga_op 3 (by kernel_rfl) rfl (.free rfl) fun K24 hK24 => ?_
    refine go_q rfl rfl (qt_call rfl Try.func17 rfl (by decide) rfl (fun w M => eqTr_refl_any w _ _ _ ((mem_ownTr (n := 2) M rfl).rd) ((mem_ownTr (n := 4) M rfl).rd))) ?_
    refine hK24 _ _ (fun w M => (mem_take 4 M :)) ?_
    refine ga_v 4 rfl (by kernel_rfl) (by kernel_rfl) (by kernel_rfl) (.free rfl) rfl rfl (qt_not rfl rfl) (fun _ _ _ h => h) ?_
    refine ga_done (by kernel_rfl) ?_
    refine gk_then (hK21 _ _ ?_)
    refine gc_cond_f rfl ?_
    refine gc_skip ?_
    refine gk_then (hK20 _ _ ?_)
    refine gc_seq fun K25 hK25 => ?_
    refine gc_region ?_
    refine g_v (.free rfl) rfl rfl (qt_assign rfl rfl) ?_
    refine g_nil ?_
    refine gk_then (hK25 _ _ ?_)
    refine gc_ret ?_
    refine ret_1 rfl rfl  (fun w M => ?_)
    exact ⟨rfl, M.1⟩

set_option maxHeartbeats 1000000 in
set_option maxRecDepth 100000 in
theorem big0 (w : World) (v0 : Value) (a0 : Tra) (r0 : Bool) (r1 : Int) (h0 : InTr w v0 a0) (nl : ¬ (szTr a0 ≤ 1048576)) :
    Calls Try.prog 10 #[v0] w (RetB w true) := by
  have mz0 := mzTr_le a0
  have I0 := h0
  obtain ⟨px1_0, px2_0, px3_0, px4_0, px5_0, px6_0, px7_0, px8_0, px9_0, px10_0, px11_0, px12_0, px13_0, px14_0, px15_0, px16_0, px17_0, px18_0, px19_0, px20_0, px21_0, pk1_0, pk2_0, pk3_0, pk4_0, pk5_0, pk6_0, pk7_0, pk8_0, pk9_0, pk10_0, pk11_0, pk12_0, pk13_0, pk14_0, pk15_0, pk16_0, pk17_0, pk18_0, pk19_0, pk20_0, pk21_0, rfl, _⟩ := h0.form
  go_enter Try.func10, Try.ntmps10
  refine gc_enter (N := 40) rfl (look_cons (k := 0) rfl (look_nil _)) ?_
  refine gc_seq fun K1 hK1 => ?_
  refine gc_region ?_
  refine g_op (.free rfl) fun K3 hK3 => ?_
  refine go_box rfl rfl rfl rfl rfl ?_
  intro B2
  refine hK3 _ _ ?_
  refine g_v (.free rfl) rfl rfl (qt_assign rfl rfl) ?_
  refine g_nil ?_
  refine gk_then (hK1 _ _ ?_)
  refine gc_seq fun K4 hK4 => ?_
  refine gc_region ?_
  refine g_v (.free rfl) rfl rfl (qt_assign rfl rfl) ?_
  refine g_nil ?_
  refine gk_then (hK4 _ _ ?_)
  refine gc_seq fun K5 hK5 => ?_
  refine gc_region ?_
  refine g_v (.free rfl) rfl rfl (qt_loadS (n := 0) rfl rfl Try.underlying29 rfl (by kernel_rfl) rfl) ?_
  refine g_v (.free rfl) rfl rfl (qt_move rfl rfl) ?_
  refine g_q (.free rfl) rfl rfl (qt_call rfl Try.func13 rfl (by decide) rfl (fun w M => szTr_gt w _ _ _ (inTr_below M.1 I0) (by first | assumption | omega) (by first | assumption | omega) (by first | assumption | omega))) ?_
  refine g_v (.free rfl) rfl rfl (qt_assign rfl rfl) ?_
  refine g_nil ?_
  refine gk_then (hK5 _ _ ?_)
  refine gc_seq fun K6 hK6 => ?_
  refine gc_seq fun K7 hK7 => ?_
  refine gc_region ?_
  refine g_v (.free rfl) rfl rfl (qt_move rfl rfl) ?_
  refine g_v (.free rfl) rfl rfl (qt_lss_t rfl rfl rfl (by decide)) ?_
  refine g_nil ?_
  refine gk_then (hK7 _ _ ?_)
  refine gc_cond_t rfl ?_
  refine gc_seq fun K8 hK8 => ?_
  refine gc_region ?_
  refine g_v (.free rfl) rfl rfl (qt_assign rfl rfl) ?_
  refine g_nil ?_
  refine gk_then (hK8 _ _ ?_)
  refine gc_ret ?_
  refine gk_then_ret ?_
  refine ret_1 rfl rfl  (fun w M => ?_)
  exact ⟨rfl, M.1⟩

theorem walk (w : World) (v0 : Value) (a0 : Tra) (r0 : Bool) (r1 : Int) (h0 : InTr w v0 a0) (hspec : (∀ (w : World) (v0 : Value), RdTr w v0 a0 → Calls Try.prog 36 #[v0] w (RetBI w r0 r1))) (himpl : (∀ (w : World) (v0 : Value), RdTr w v0 a0 → Calls Try.prog 37 #[v0] w (RetBI w r0 r1))) :
    Calls Try.prog 10 #[v0] w (RetB w true) := by
  by_cases l0 : szTr a0 ≤ 1048576
  rotate_left
  · exact big0 w v0 a0 r0 r1 h0 l0
  exact main w v0 a0 r0 r1 h0 l0 hspec himpl

set_option maxHeartbeats 4000000 in
set_option maxRecDepth 100000 in
theorem lifted (os : Os) (started : os.Started) (H : Type) (enc : TypeId × Value → H) :
    ReturnsInHanded {} Try.checked os 10 .any (Rows.fnExactIsNaturalIsomorphismSpec.pre6 enc Try.prog Try.f10 Rows.fnExactIsNaturalIsomorphismRow.domain false) (Rows.fnExactIsNaturalIsomorphismSpec.post enc Try.prog Try.f10 false true false false) := by
  refine returnsInHanded_of_change (C := Try.checked) own started (by kernel_rfl) Try.func10
    (ChangeSpec.witness6 (enc := enc) (C := Try.checked) false ⟨#[], #[.agg #[.int .i64 0, .slice none 0 0, .slice none 0 0, .slice none 0 0, .slice none 0 0, .int .i64 0, .slice none 0 0, .slice none 0 0, .slice none 0 0, .slice none 0 0, .slice none 0 0, .slice none 0 0, .int .i64 0, .slice none 0 0, .slice none 0 0, .slice none 0 0, .slice none 0 0, .int .i64 0, .slice none 0 0, .slice none 0 0, .slice none 0 0, .slice none 0 0, .slice none 0 0, .slice none 0 0, .slice none 0 0]], []⟩ 8 (by kernel_rfl) (by kernel_rfl) (by kernel_rfl) (by kernel_rfl)) ?_
  intro W base args ds gs before hval0 hW _ _
  have hval : ∀ (j : Nat) t v, Try.f10.params[j]? = some t → args[j]? = some v → Value.okWide Try.prog W .any base t v := hval0
  have hW' := hW
  obtain ⟨p, q, hA0, hV, rfl, _, _⟩ := hW
  have hA : DataW.TrodAll enc Try.prog W 0 (fun _ => true) true Try.f10.params.toList args.toList ds p := hA0
  rw [Try.params10] at hA hval
  obtain ⟨v0, vs0, d0, ds0, p0, q0, hargs, rfl, rfl, t0, s0⟩ := trodAll_cons hA
  obtain ⟨rfl, rfl, rfl⟩ := trodAll_nil s0
  obtain rfl : args = #[v0] := by cases args; simp_all
  obtain ⟨rfl, rfl⟩ := trodVars_none hV
  obtain ⟨a0, h0⟩ := open_inTr (hval 0 29 v0 rfl rfl) t0
  clear hA0 hval0
  refine (walk W v0 a0 (fIsNaturalIsomorphism a0).1 (fIsNaturalIsomorphism a0).2 h0 (fun u v0 k0 => spec_IsNaturalIsomorphism u v0 a0 k0) (fun u v0 k0 => impl_IsNaturalIsomorphism u v0 a0 k0)).mono fun e W' ⟨he, hg⟩ => ?_
  subst he
  exact ⟨_, rfl, law_post rfl (by kernel_rfl) hW' (by kernel_rfl) rfl rfl rfl hg⟩

theorem over : Rows.fnExactIsNaturalIsomorphismRow.holds Try.pinned (OpenSpec.ofChange Rows.fnExactIsNaturalIsomorphismSpec) :=
  OpenClaim.holds_of_wide 10 Try.f10 rfl rfl rfl rfl rfl rfl rfl ⟨rfl, rfl, rfl, rfl, rfl⟩ rfl rfl rfl rfl rfl (by kernel_rfl) Try.func10 (by kernel_rfl)
    (of_decide_eq_true (by kernel_rfl)) (by unfold Func.isWrapper; first | (rw [if_pos (by decide +kernel)]; kernel_rfl) | (rw [if_neg (by decide +kernel)]; exact ⟨rfl, rfl⟩))
    (fun os started H enc _ => lifted os started H enc)

theorem proved : Rows.FnExactIsNaturalIsomorphismSaid := over
end Go.Proofs.Ytpppoipaabofgaa.exactIsNaturalIsomorphism
