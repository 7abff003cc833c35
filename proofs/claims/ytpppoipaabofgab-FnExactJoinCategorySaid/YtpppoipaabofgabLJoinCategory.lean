
/- The exact law of JoinCategory: its model and its program do the same, in memory of their own. Written by wip/tools/genlaw.py. -/
import Derived.Test.YtpppoipaabofgabMJoinCategory
set_option linter.unusedSimpArgs false
set_option linter.unusedVariables false
set_option linter.unusedSectionVars false

namespace Go.Proofs.Ytpppoipaabofgab.exactJoinCategory
open Go.ChangeShapes Go.WideShapes Go.ChangeAt Go.RowKit

theorem walk (w : World) (v0 : Value) (a0 : Cat) (v1 : Value) (a1 : Cat) (r0 : Cat) (r1 : Int) (h0 : InC w v0 a0) (h1 : InC w v1 a1) (hr0 : mzC r0 ≤ 1152921504606846) (hspec : (∀ (w : World) (v0 : Value) (v1 : Value), RdC w v0 a0 → RdC w v1 a1 → Calls Try.prog 15 #[v0, v1] w (RetCI w r0 r1))) (himpl : (∀ (w : World) (v0 : Value) (v1 : Value), RdC w v0 a0 → RdC w v1 a1 → Calls Try.prog 17 #[v0, v1] w (RetCI w r0 r1))) :
    Calls Try.prog 4 #[v0, v1] w (RetB w true) := by
  by_cases l0 : szM a0 ≤ 1048576
  rotate_left
  · exact big0 w v0 a0 v1 a1 r0 r1 h0 h1 l0
  by_cases l1 : szM a0 + szM a1 ≤ 1048576
  rotate_left
  · exact big1 w v0 a0 v1 a1 r0 r1 h0 h1 l0 l1
  exact main w v0 a0 v1 a1 r0 r1 h0 l0 h1 l1 hr0 hspec himpl

set_option maxHeartbeats 4000000 in
set_option maxRecDepth 100000 in
theorem lifted (os : Os) (started : os.Started) (H : Type) (enc : TypeId × Value → H) :
    ReturnsInHanded {} Try.checked os 4 .any (Rows.fnExactJoinCategorySpec.pre6 enc Try.prog Try.f4 Rows.fnExactJoinCategoryRow.domain false) (Rows.fnExactJoinCategorySpec.post enc Try.prog Try.f4 false true false false) := by
  refine returnsInHanded_of_change (C := Try.checked) own started (by kernel_rfl) Try.func4
    (ChangeSpec.witness6 (enc := enc) (C := Try.checked) false ⟨#[], #[.agg #[.int .i64 0, .slice none 0 0, .slice none 0 0, .slice none 0 0, .slice none 0 0], .agg #[.int .i64 0, .slice none 0 0, .slice none 0 0, .slice none 0 0, .slice none 0 0]], []⟩ 8 (by kernel_rfl) (by kernel_rfl) (by kernel_rfl) (by kernel_rfl)) ?_
  intro W base args ds gs before hval0 hW _ _
  have hval : ∀ (j : Nat) t v, Try.f4.params[j]? = some t → args[j]? = some v → Value.okWide Try.prog W .any base t v := hval0
  have hW' := hW
  obtain ⟨p, q, hA0, hV, rfl, _, _⟩ := hW
  have hA : DataW.TrodAll enc Try.prog W 0 (fun _ => true) true Try.f4.params.toList args.toList ds p := hA0
  rw [Try.params4] at hA hval
  obtain ⟨v0, vs0, d0, ds0, p0, q0, hargs, rfl, rfl, t0, s0⟩ := trodAll_cons hA
  obtain ⟨v1, vs1, d1, ds1, p1, q1, rfl, rfl, rfl, t1, s1⟩ := trodAll_cons s0
  obtain ⟨rfl, rfl, rfl⟩ := trodAll_nil s1
  obtain rfl : args = #[v0, v1] := by cases args; simp_all
  obtain ⟨rfl, rfl⟩ := trodVars_none hV
  obtain ⟨a0, h0⟩ := open_inC (hval 0 25 v0 rfl rfl) t0
  obtain ⟨a1, h1⟩ := open_inC (hval 1 25 v1 rfl rfl) t1
  clear hA0 hval0
  refine (walk W v0 a0 v1 a1 (fJoinCategory a0 a1).1 (fJoinCategory a0 a1).2 h0 h1 (bound_JoinCategory a0 a1) (fun u v0 v1 k0 k1 => spec_JoinCategory u v0 a0 v1 a1 k0 k1) (fun u v0 v1 k0 k1 => impl_JoinCategory u v0 a0 v1 a1 k0 k1)).mono fun e W' ⟨he, hg⟩ => ?_
  subst he
  exact ⟨_, rfl, law_post rfl (by kernel_rfl) hW' (by kernel_rfl) rfl rfl rfl hg⟩

set_option maxRecDepth 100000 in
set_option maxHeartbeats 4000000 in
theorem closed : joinedFacts Try.pinned.checked.prog 4 Try.f4 Rows.fnExactJoinCategorySpec Rows.fnExactJoinCategoryRow = true := by
  simp only [joinedFacts, Bool.and_eq_true]
  repeat' apply And.intro
  all_goals (as_aux_lemma => kernel_rfl)
theorem over : Rows.fnExactJoinCategoryRow.holds Try.pinned (OpenSpec.ofChange Rows.fnExactJoinCategorySpec) :=
  OpenClaim.holds_of_wide 4 Try.f4 rfl rfl rfl rfl rfl rfl rfl ⟨rfl, rfl, rfl, rfl, rfl⟩ rfl rfl rfl rfl rfl (by kernel_rfl) Try.func4 closed
    (of_decide_eq_true (by kernel_rfl)) (by unfold Func.isWrapper; first | (rw [if_pos (by decide +kernel)]; kernel_rfl) | (rw [if_neg (by decide +kernel)]; exact ⟨rfl, rfl⟩))
    (fun os started H enc _ => lifted os started H enc)

theorem proved : Rows.FnExactJoinCategorySaid := over
end Go.Proofs.Ytpppoipaabofgab.exactJoinCategory
