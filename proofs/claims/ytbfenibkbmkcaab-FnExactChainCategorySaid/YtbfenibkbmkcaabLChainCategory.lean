
/- The exact law of ChainCategory: its model and its program do the same, in memory of their own. Written by wip/tools/genlaw.py. -/
import Derived.Test.YtbfenibkbmkcaabBase
import Derived.Test.YtbfenibkbmkcaabLawC
import Derived.Test.YtbfenibkbmkcaabRul4
import Derived.Test.YtbfenibkbmkcaabChain
set_option linter.unusedSimpArgs false
set_option linter.unusedVariables false
set_option linter.unusedSectionVars false
namespace Go.Proofs.Ytbfenibkbmkcaab.exactChainCategory
open Go.ChangeShapes Go.WideShapes Go.ChangeAt Go.RowKit
set_option maxHeartbeats 4000000 in
set_option maxRecDepth 100000 in
theorem main (w : World) (a0 : Int) (r0 : Cat) (r1 : Int)  (hr0 : mzC r0 ≤ 1152921504606846) (hspec : (∀ (w : World) (_ : Unit),  Calls Try.prog 7 #[(.int .i64 a0)] w (RetCI w r0 r1))) (himpl : (∀ (w : World) (_ : Unit),  Calls Try.prog 8 #[(.int .i64 a0)] w (RetCI w r0 r1))) :
    Calls Try.prog 3 #[.int .i64 a0] w (RetB w true) := by
  go_enter Try.func3, Try.ntmps3
  refine gc_enter (N := 63) rfl (look_cons (k := 0) rfl (look_nil _)) ?_
  refine gc_seq fun K1 hK1 => ?_
  refine gc_region ?_
  refine g_v (.free rfl) rfl rfl (qt_assign rfl rfl) ?_
  refine g_nil ?_
  refine gk_then (hK1 _ _ ?_)
  refine gc_seq fun K2 hK2 => ?_
  refine gc_region ?_
  refine g_v (.free rfl) rfl rfl (qt_move rfl rfl) ?_
  refine g_op (.free rfl) fun K4 hK4 => ?_
  refine go_callCI1 rfl rfl rfl Try.func7 rfl (by decide) rfl (fun w M => hspec w ()) ?_
  intro ca3 cb3 cc3 cd3 ce3 cf3 cg3 ch3
  refine hK4 _ _ ?_
  refine g_v (.free rfl) rfl rfl (qt_move rfl rfl) ?_
  refine g_v (.free rfl) rfl rfl (qt_extract rfl rfl rfl) ?_
  refine g_v (.free rfl) rfl rfl (qt_extract rfl rfl rfl) ?_
  refine g_op (.free rfl) fun K6 hK6 => ?_
  refine go_alloc (z := (.agg #[.int .i64 0, .slice none 0 0, .slice none 0 0, .slice none 0 0, .slice none 0 0])) (cs := [.int .i64 0, .slice none 0 0, .slice none 0 0, .slice none 0 0, .slice none 0 0]) rfl rfl rfl (fun w => by kernel_rfl) rfl ?_
  intro B5
  refine hK6 _ _ ?_
  refine g_op (.free rfl) fun K7 hK7 => ?_
  refine go_storeS (n := 1) rfl rfl rfl rfl (by kernel_rfl) rfl rfl rfl ?_
  refine hK7 _ _ ?_
  refine g_v (.free rfl) rfl rfl (qt_assign rfl rfl) ?_
  refine g_nil ?_
  refine gk_then (hK2 _ _ ?_)
  refine gc_seq fun K8 hK8 => ?_
  refine gc_region ?_
  refine g_v (.free rfl) rfl rfl (qt_move rfl rfl) ?_
  refine g_op (.free rfl) fun K10 hK10 => ?_
  refine go_callCI1 rfl rfl rfl Try.func8 rfl (by decide) rfl (fun w M => himpl w ()) ?_
  intro ca9 cb9 cc9 cd9 ce9 cf9 cg9 ch9
  refine hK10 _ _ ?_
  refine g_v (.free rfl) rfl rfl (qt_move rfl rfl) ?_
  refine g_v (.free rfl) rfl rfl (qt_extract rfl rfl rfl) ?_
  refine g_v (.free rfl) rfl rfl (qt_extract rfl rfl rfl) ?_
  refine g_op (.free rfl) fun K12 hK12 => ?_
  refine go_alloc (z := (.agg #[.int .i64 0, .slice none 0 0, .slice none 0 0, .slice none 0 0, .slice none 0 0])) (cs := [.int .i64 0, .slice none 0 0, .slice none 0 0, .slice none 0 0, .slice none 0 0]) rfl rfl rfl (fun w => by kernel_rfl) rfl ?_
  intro B11
  refine hK12 _ _ ?_
  refine g_op (.free rfl) fun K13 hK13 => ?_
  refine go_storeS (n := 3) rfl rfl rfl rfl (by kernel_rfl) rfl rfl rfl ?_
  refine hK13 _ _ ?_
  refine g_v (.free rfl) rfl rfl (qt_assign rfl rfl) ?_
  refine g_nil ?_
  refine gk_then (hK8 _ _ ?_)
  refine gc_seq fun K14 hK14 => ?_
  refine gc_seq fun K15 hK15 => ?_
  refine gc_region ?_
  refine g_v (.free rfl) rfl rfl (qt_loadS (n := 3) rfl rfl Try.underlying25 rfl (by kernel_rfl) rfl) ?_
  refine g_v (.free rfl) rfl rfl (qt_loadS (n := 1) rfl rfl Try.underlying25 rfl (by kernel_rfl) rfl) ?_
  refine g_q (.free rfl) rfl rfl (qt_call rfl Try.func9 rfl (by decide) rfl (fun w M => eqC_refl_any w _ _ _ ((mem_ownC (n := 2) M rfl).rd) ((mem_ownC (n := 0) M rfl).rd))) ?_
  refine g_v (.free rfl) rfl rfl (qt_not rfl rfl) ?_
  refine g_v (.free rfl) rfl rfl (qt_move rfl rfl) ?_
  refine g_v (.held _ _ _ rfl rfl rfl) rfl rfl (qt_move rfl rfl) ?_
  refine g_v (.held _ _ _ rfl rfl rfl) rfl rfl (qt_move rfl rfl) ?_
  refine g_v (.held _ _ _ rfl rfl rfl) rfl rfl (qt_neq_f rfl rfl rfl (fun h => h rfl)) ?_
  refine g_v (.free rfl) rfl rfl (qt_pick_f rfl rfl rfl) ?_
  refine g_nil ?_
  refine gk_then (hK15 _ _ ?_)
  refine gc_cond_f rfl ?_
  refine gc_skip ?_
  refine gk_then (hK14 _ _ ?_)
  refine gc_seq fun K16 hK16 => ?_
  refine gc_region ?_
  refine g_v (.free rfl) rfl rfl (qt_assign rfl rfl) ?_
  refine g_nil ?_
  refine gk_then (hK16 _ _ ?_)
  refine gc_seq fun K17 hK17 => ?_
  refine gc_region ?_
  refine g_v (.free rfl) rfl rfl (qt_loadS (n := 3) rfl rfl Try.underlying25 rfl (by kernel_rfl) rfl) ?_
  refine g_v (.free rfl) rfl rfl (qt_move rfl rfl) ?_
  refine g_op (.free rfl) fun K18 hK18 => ?_
  refine go_mark (ownCI _ (mkC _ _)) (n := 2) rfl rfl rfl Try.func10 rfl (by decide) rfl rfl (fun w S hS => markC_any w S _ _ _ hS (by omega) (by omega)) ?_
  refine hK18 _ _ ?_
  refine g_v (.free rfl) rfl rfl (qt_assign rfl rfl) ?_
  refine g_nil ?_
  refine gk_then (hK17 _ _ ?_)
  refine gc_seq fun K19 hK19 => ?_
  refine gc_region ?_
  refine g_v (.free rfl) rfl rfl (qt_assign rfl rfl) ?_
  refine g_nil ?_
  refine gk_then (hK19 _ _ ?_)
  refine gc_seq fun K20 hK20 => ?_
  refine gc_region ?_
  refine g_v (.free rfl) rfl rfl (qt_loadS (n := 3) rfl rfl Try.underlying25 rfl (by kernel_rfl) rfl) ?_
  refine g_v (.free rfl) rfl rfl (qt_move rfl rfl) ?_
  refine g_q (.free rfl) rfl rfl (qt_call rfl Try.func11 rfl (by decide) rfl (fun w M => heldC_any w _ _ _ ((mem_ownC (n := 2) M rfl).rd) (by first | assumption | omega) (by first | assumption | omega))) ?_
  refine g_v (.free rfl) rfl rfl (qt_assign rfl rfl) ?_
  refine g_nil ?_
  refine gk_then (hK20 _ _ ?_)
  refine gc_seq fun K21 hK21 => ?_
  refine gc_seq fun K22 hK22 => ?_
  refine gc_region ?_
  refine g_v (.free rfl) rfl rfl (qt_move rfl rfl) ?_
  refine g_v (.free rfl) rfl rfl (qt_lss rfl rfl rfl) ?_
  refine g_nil ?_
  refine gk_then (hK22 _ _ ?_)
  refine gc_cond rfl (fun hc0 => ?_) (fun hc0 => ?_)
  · try simp only [decide_eq_true_eq, decide_eq_false_iff_not, Bool.not_eq_true', Bool.not_eq_false', Bool.not_eq_eq_eq_not, Bool.not_true, Bool.not_false, ne_eq, Decidable.not_not, Classical.not_not] at hc0
    first | (exfalso; omega) | exact absurd rfl hc0 | (simp at hc0)
  · try simp only [decide_eq_true_eq, decide_eq_false_iff_not, Bool.not_eq_true', Bool.not_eq_false', Bool.not_eq_eq_eq_not, Bool.not_true, Bool.not_false, ne_eq, Decidable.not_not, Classical.not_not] at hc0
    refine gc_skip ?_
    refine gk_then (hK21 _ _ ?_)
    refine gc_seq fun K23 hK23 => ?_
    refine gc_seq fun K24 hK24 => ?_
    refine gc_region ?_
    refine g_v (.free rfl) rfl rfl (qt_move rfl rfl) ?_
    refine g_v (.free rfl) rfl rfl (qt_move rfl rfl) ?_
    refine g_v (.free rfl) rfl rfl (qt_neq rfl rfl rfl) ?_
    refine g_nil ?_
    refine gk_then (hK24 _ _ ?_)
    refine gc_cond rfl (fun hc1 => ?_) (fun hc1 => ?_)
    · try simp only [decide_eq_true_eq, decide_eq_false_iff_not, Bool.not_eq_true', Bool.not_eq_false', Bool.not_eq_eq_eq_not, Bool.not_true, Bool.not_false, ne_eq, Decidable.not_not, Classical.not_not] at hc1
      first | (exfalso; omega) | exact absurd rfl hc1 | (simp at hc1)
    · try simp only [decide_eq_true_eq, decide_eq_false_iff_not, Bool.not_eq_true', Bool.not_eq_false', Bool.not_eq_eq_eq_not, Bool.not_true, Bool.not_false, ne_eq, Decidable.not_not, Classical.not_not] at hc1
      refine gc_skip ?_
      refine gk_then (hK23 _ _ ?_)
      refine gc_seq fun K25 hK25 => ?_
      refine gc_region ?_
      refine g_v (.free rfl) rfl rfl (qt_move rfl rfl) ?_
      refine g_op (.free rfl) fun K27 hK27 => ?_
      refine go_callCI1 rfl rfl rfl Try.func8 rfl (by decide) rfl (fun w M => himpl w ()) ?_
      intro ca26 cb26 cc26 cd26 ce26 cf26 cg26 ch26
      refine hK27 _ _ ?_
      refine g_v (.free rfl) rfl rfl (qt_move rfl rfl) ?_
      refine g_v (.free rfl) rfl rfl (qt_extract rfl rfl rfl) ?_
      refine g_v (.free rfl) rfl rfl (qt_extract rfl rfl rfl) ?_
      refine g_op (.free rfl) fun K29 hK29 => ?_
      refine go_alloc (z := (.agg #[.int .i64 0, .slice none 0 0, .slice none 0 0, .slice none 0 0, .slice none 0 0])) (cs := [.int .i64 0, .slice none 0 0, .slice none 0 0, .slice none 0 0, .slice none 0 0]) rfl rfl rfl (fun w => by kernel_rfl) rfl ?_
      intro B28
      refine hK29 _ _ ?_
      refine g_op (.free rfl) fun K30 hK30 => ?_
      refine go_storeS (n := 5) rfl rfl rfl rfl (by kernel_rfl) rfl rfl rfl ?_
      refine hK30 _ _ ?_
      refine g_v (.free rfl) rfl rfl (qt_assign rfl rfl) ?_
      refine g_nil ?_
      refine gk_then (hK25 _ _ ?_)
      refine gc_seq fun K31 hK31 => ?_
      refine gc_seq fun K32 hK32 => ?_
      refine gc_region ?_
      refine g_v (.free rfl) rfl rfl (qt_loadS (n := 5) rfl rfl Try.underlying25 rfl (by kernel_rfl) rfl) ?_
      refine g_v (.free rfl) rfl rfl (qt_loadS (n := 1) rfl rfl Try.underlying25 rfl (by kernel_rfl) rfl) ?_
      refine g_q (.free rfl) rfl rfl (qt_call rfl Try.func9 rfl (by decide) rfl (fun w M => eqC_refl_any w _ _ _ ((mem_ownC (n := 4) M rfl).rd) ((mem_ownC (n := 0) M rfl).rd))) ?_
      refine g_v (.free rfl) rfl rfl (qt_not rfl rfl) ?_
      refine g_v (.free rfl) rfl rfl (qt_move rfl rfl) ?_
      refine g_v (.held _ _ _ rfl rfl rfl) rfl rfl (qt_move rfl rfl) ?_
      refine g_v (.held _ _ _ rfl rfl rfl) rfl rfl (qt_move rfl rfl) ?_
      refine g_v (.held _ _ _ rfl rfl rfl) rfl rfl (qt_neq_f rfl rfl rfl (fun h => h rfl)) ?_
      refine g_v (.free rfl) rfl rfl (qt_pick_f rfl rfl rfl) ?_
      refine g_nil ?_
      refine gk_then (hK32 _ _ ?_)
      refine gc_cond_f rfl ?_
      refine gc_skip ?_
      refine gk_then (hK31 _ _ ?_)
      refine gc_seq fun K33 hK33 => ?_
      refine gc_region ?_
      refine g_v (.free rfl) rfl rfl (qt_assign rfl rfl) ?_
      refine g_nil ?_
      refine gk_then (hK33 _ _ ?_)
      refine gc_seq fun K34 hK34 => ?_
      refine gc_region ?_
      refine g_v (.free rfl) rfl rfl (qt_loadS (n := 3) rfl rfl Try.underlying25 rfl (by kernel_rfl) rfl) ?_
      refine g_v (.free rfl) rfl rfl (qt_move rfl rfl) ?_
      refine g_q (.free rfl) rfl rfl (qt_call rfl Try.func11 rfl (by decide) rfl (fun w M => heldC_any w _ _ _ ((mem_ownC (n := 2) M rfl).rd) (by first | assumption | omega) (by first | assumption | omega))) ?_
      refine g_v (.free rfl) rfl rfl (qt_assign rfl rfl) ?_
      refine g_nil ?_
      refine gk_then (hK34 _ _ ?_)
      refine gc_seq fun K35 hK35 => ?_
      refine gc_seq fun K36 hK36 => ?_
      refine gc_region ?_
      refine g_v (.free rfl) rfl rfl (qt_move rfl rfl) ?_
      refine g_v (.free rfl) rfl rfl (qt_lss rfl rfl rfl) ?_
      refine g_nil ?_
      refine gk_then (hK36 _ _ ?_)
      refine gc_cond rfl (fun hc2 => ?_) (fun hc2 => ?_)
      · try simp only [decide_eq_true_eq, decide_eq_false_iff_not, Bool.not_eq_true', Bool.not_eq_false', Bool.not_eq_eq_eq_not, Bool.not_true, Bool.not_false, ne_eq, Decidable.not_not, Classical.not_not] at hc2
        first | (exfalso; omega) | exact absurd rfl hc2 | (simp at hc2)
      · try simp only [decide_eq_true_eq, decide_eq_false_iff_not, Bool.not_eq_true', Bool.not_eq_false', Bool.not_eq_eq_eq_not, Bool.not_true, Bool.not_false, ne_eq, Decidable.not_not, Classical.not_not] at hc2
        refine gc_skip ?_
        refine gk_then (hK35 _ _ ?_)
        refine gc_seq fun K37 hK37 => ?_
        refine gc_seq fun K38 hK38 => ?_
        refine gc_region ?_
        refine g_v (.free rfl) rfl rfl (qt_move rfl rfl) ?_
        refine g_v (.free rfl) rfl rfl (qt_move rfl rfl) ?_
        refine g_v (.free rfl) rfl rfl (qt_neq rfl rfl rfl) ?_
        refine g_nil ?_
        refine gk_then (hK38 _ _ ?_)
        refine gc_cond rfl (fun hc3 => ?_) (fun hc3 => ?_)
        · try simp only [decide_eq_true_eq, decide_eq_false_iff_not, Bool.not_eq_true', Bool.not_eq_false', Bool.not_eq_eq_eq_not, Bool.not_true, Bool.not_false, ne_eq, Decidable.not_not, Classical.not_not] at hc3
          first | (exfalso; omega) | exact absurd rfl hc3 | (simp at hc3)
        · try simp only [decide_eq_true_eq, decide_eq_false_iff_not, Bool.not_eq_true', Bool.not_eq_false', Bool.not_eq_eq_eq_not, Bool.not_true, Bool.not_false, ne_eq, Decidable.not_not, Classical.not_not] at hc3
          refine gc_skip ?_
          refine gk_then (hK37 _ _ ?_)
          refine gc_seq fun K39 hK39 => ?_
          refine gc_region ?_
          refine g_v (.free rfl) rfl rfl (qt_assign rfl rfl) ?_
          refine g_nil ?_
          refine gk_then (hK39 _ _ ?_)
          refine gc_ret ?_
          refine ret_1 rfl rfl  (fun w M => ?_)
          exact ⟨rfl, M.1⟩

theorem walk (w : World) (a0 : Int) (r0 : Cat) (r1 : Int)  (hr0 : mzC r0 ≤ 1152921504606846) (hspec : (∀ (w : World) (_ : Unit),  Calls Try.prog 7 #[(.int .i64 a0)] w (RetCI w r0 r1))) (himpl : (∀ (w : World) (_ : Unit),  Calls Try.prog 8 #[(.int .i64 a0)] w (RetCI w r0 r1))) :
    Calls Try.prog 3 #[(.int .i64 a0)] w (RetB w true) := by
  exact main w a0 r0 r1 hr0 hspec himpl

set_option maxRecDepth 100000 in
theorem lifted (os : Os) (started : os.Started) (H : Type) (enc : TypeId × Value → H) :
    ReturnsInHanded {} Try.checked os 3 .any (Rows.fnExactChainCategorySpec.pre6 enc Try.prog Try.f3 Rows.fnExactChainCategoryRow.domain false) (Rows.fnExactChainCategorySpec.post enc Try.prog Try.f3 false true false false) := by
  refine returnsInHanded_of_change (C := Try.checked) own started (by kernel_rfl) Try.func3
    (ChangeSpec.witness6 (enc := enc) (C := Try.checked) false ⟨#[], #[.int .i64 0], []⟩ 8 (by kernel_rfl) (by kernel_rfl) (by kernel_rfl) (by kernel_rfl)) ?_
  intro W base args ds gs before hval0 hW _ _
  have hval : ∀ (j : Nat) t v, Try.f3.params[j]? = some t → args[j]? = some v → Value.okWide Try.prog W .any base t v := hval0
  have hW' := hW
  obtain ⟨p, q, hA0, hV, rfl, _, _⟩ := hW
  have hA : DataW.TrodAll enc Try.prog W 0 (fun _ => true) true Try.f3.params.toList args.toList ds p := hA0
  rw [Try.params3] at hA hval
  obtain ⟨v0, vs0, d0, ds0, p0, q0, hargs, rfl, rfl, t0, s0⟩ := trodAll_cons hA
  obtain ⟨rfl, rfl, rfl⟩ := trodAll_nil s0
  obtain rfl : args = #[v0] := by cases args; simp_all
  obtain ⟨rfl, rfl⟩ := trodVars_none hV
  obtain ⟨a0, rfl, rfl, rfl, _⟩ := open_int Try.underlying2 (hval 0 2 v0 rfl rfl) t0
  clear hA0 hval0
  refine (walk W a0 (fChainCategory a0).1 (fChainCategory a0).2  (bound_ChainCategory a0) (fun u _  => spec_ChainCategory u a0 ) (fun u _  => impl_ChainCategory u a0 )).mono fun e W' ⟨he, hg⟩ => ?_
  subst he
  exact ⟨_, rfl, law_post rfl (by kernel_rfl) hW' (by kernel_rfl) rfl rfl rfl hg⟩

theorem over : Rows.fnExactChainCategoryRow.holds Try.pinned (OpenSpec.ofChange Rows.fnExactChainCategorySpec) :=
  OpenClaim.holds_of_wide 3 Try.f3 rfl rfl rfl rfl rfl rfl rfl ⟨rfl, rfl, rfl, rfl, rfl⟩ rfl rfl rfl rfl rfl (by kernel_rfl) Try.func3 (by kernel_rfl)
    (of_decide_eq_true (by kernel_rfl)) (by unfold Func.isWrapper; first | (rw [if_pos (by decide +kernel)]; kernel_rfl) | (rw [if_neg (by decide +kernel)]; exact ⟨rfl, rfl⟩))
    (fun os started H enc _ => lifted os started H enc)

theorem proved : Rows.FnExactChainCategorySaid := over
end Go.Proofs.Ytbfenibkbmkcaab.exactChainCategory
