
/- The exact law of IsPartition: its model and its program do the same, in memory of their own. Written by wip/tools/gen_law.py. -/
import Derived.Test.YtbfenibkbmkcaaaBase
import Derived.Test.YtbfenibkbmkcaaaIdx
set_option linter.unusedSimpArgs false
set_option linter.unusedVariables false
set_option linter.unusedSectionVars false
namespace Go.Proofs.Ytbfenibkbmkcaaa.exactIsPartition
open Go.ChangeShapes Go.WideShapes Go.ChangeAt Go.RowKit
set_option maxHeartbeats 1000000 in
set_option maxRecDepth 100000 in
theorem main (w : World) (v0 : Value) (a0 : List Int) (r0 : Bool) (h0 : In w v0 a0) (l0 : a0.length ≤ 1048576) (hspec : (∀ (w : World) (v0 : Value), Rd w v0 a0 → Calls Try.prog 21 #[v0] w (RetB w r0))) (himpl : (∀ (w : World) (v0 : Value), Rd w v0 a0 → Calls Try.prog 22 #[v0] w (RetB w r0))) :
    Calls Try.prog 4 #[v0] w (RetB w true) := by
  have HS := Lib.hid hspec; clear hspec
  have HI := Lib.hid himpl; clear himpl
  have R0 := h0.rd l0
  obtain ⟨b0, cap0, rfl, _⟩ := h0
  have hb : Below w.heap.size w w := Below.refl _ _
  go_enter Try.func4, Try.ntmps4
  go_wp2_with fail
  refine (to_any _ _ a0 (rd_below hb R0)).mono ?_
  rintro e1 u1 ⟨yt0, rfl, St0, hn1⟩
  replace St0 := St0.mono hb.size
  replace hb := hb.trans (hn1.mono hb.size)
  clear hn1
  go_wp2_with fail
  refine (HS.out _ _ (St0.rd)).mono ?_
  rintro e2 u2 ⟨rfl, hn2⟩
  replace St0 := sl_below hn2 St0
  replace hb := hb.trans (hn2.mono hb.size)
  clear hn2
  clear St0
  go_wp2_with fail
  refine (to_any _ _ a0 (rd_below hb R0)).mono ?_
  rintro e3 u3 ⟨yx0, rfl, Sx0, hn3⟩
  replace Sx0 := Sx0.mono hb.size
  replace hb := hb.trans (hn3.mono hb.size)
  clear hn3
  go_wp2_with fail
  refine (HI.out _ _ (Sx0.rd)).mono ?_
  rintro e4 u4 ⟨rfl, hn4⟩
  replace Sx0 := sl_below hn4 Sx0
  replace hb := hb.trans (hn4.mono hb.size)
  clear hn4
  go_wp2_with fail
  refine (to_any _ _ a0 (rd_below hb R0)).mono ?_
  rintro e5 u5 ⟨yc0, rfl, Sc0, hn5⟩
  have ap_x0_c0 := apart_of Sx0 Sc0
  replace Sc0 := Sc0.mono hb.size
  replace Sx0 := sl_below hn5 Sx0
  replace hb := hb.trans (hn5.mono hb.size)
  clear hn5
  go_wp2_with fail
  refine (eq_refl_any _ _ _ a0 (Sx0.rd) (Sc0.rd)).mono ?_
  rintro e6 u6 ⟨rfl, hn6⟩
  replace Sx0 := sl_below hn6 Sx0
  replace Sc0 := sl_below hn6 Sc0
  replace hb := hb.trans (hn6.mono hb.size)
  clear hn6
  clear Sc0
  go_wp2
  go_ret
  exact ⟨rfl, hb⟩

set_option maxRecDepth 100000 in
theorem walk (w : World) (v0 : Value) (a0 : List Int) (r0 : Bool) (h0 : In w v0 a0) (hspec : (∀ (w : World) (v0 : Value), Rd w v0 a0 → Calls Try.prog 21 #[v0] w (RetB w r0))) (himpl : (∀ (w : World) (v0 : Value), Rd w v0 a0 → Calls Try.prog 22 #[v0] w (RetB w r0))) :
    Calls Try.prog 4 #[v0] w (RetB w true) := by
  by_cases l0 : a0.length ≤ 1048576
  · skip
    exact main w v0 a0 r0 h0 l0 hspec himpl
  · clear hspec himpl
    obtain ⟨b0, cap0, rfl, m0, _⟩ := h0
    unfold maxLen at m0
    go_enter Try.func4, Try.ntmps4
    go_wp2
    go_ret
    exact ⟨rfl, Below.refl _ _⟩

set_option maxRecDepth 100000 in
theorem lifted (os : Os) (started : os.Started) (H : Type) (enc : TypeId × Value → H) :
    ReturnsInHanded {} Try.checked os 4 .any (Rows.fnExactIsPartitionSpec.pre6 enc Try.prog Try.f4 Rows.fnExactIsPartitionRow.domain false) (Rows.fnExactIsPartitionSpec.post enc Try.prog Try.f4 false true false false) := by
  refine returnsInHanded_of_change (C := Try.checked) own started (by kernel_rfl) Try.func4
    (ChangeSpec.witness6 (enc := enc) (C := Try.checked) false ⟨#[], #[.slice none 0 0], []⟩ 8 (by kernel_rfl) (by kernel_rfl) (by kernel_rfl) (by kernel_rfl)) ?_
  intro W base args ds gs before hval0 hW _ _
  have hval : ∀ (j : Nat) t v, Try.f4.params[j]? = some t → args[j]? = some v → Value.okWide Try.prog W .any base t v := hval0
  have hW' := hW
  obtain ⟨p, q, hA0, hV, rfl, _, _⟩ := hW
  have hA : DataW.TrodAll enc Try.prog W 0 (fun _ => true) true Try.f4.params.toList args.toList ds p := hA0
  rw [Try.params4] at hA hval
  obtain ⟨v0, vs0, d0, ds0, p0, q0, hargs, rfl, rfl, t0, s0⟩ := trodAll_cons hA
  obtain ⟨rfl, rfl, rfl⟩ := trodAll_nil s0
  obtain rfl : args = #[v0] := by cases args; simp_all
  obtain ⟨rfl, rfl⟩ := trodVars_none hV
  obtain ⟨a0, h0⟩ := open_in (hval 0 22 v0 rfl rfl) t0
  clear hA0 hval0
  refine (walk W v0 a0 (fIsPartition a0) h0 (fun u v0 k0 => spec_IsPartition u v0 a0 k0) (fun u v0 k0 => impl_IsPartition u v0 a0 k0)).mono fun e W' ⟨he, hg⟩ => ?_
  subst he
  exact ⟨_, rfl, law_post rfl (by kernel_rfl) hW' (by kernel_rfl) rfl rfl rfl hg⟩

theorem over : Rows.fnExactIsPartitionRow.holds Try.pinned (OpenSpec.ofChange Rows.fnExactIsPartitionSpec) :=
  OpenClaim.holds_of_wide 4 Try.f4 rfl rfl rfl rfl rfl rfl rfl ⟨rfl, rfl, rfl, rfl, rfl⟩ rfl rfl rfl rfl rfl (by kernel_rfl) Try.func4 (by kernel_rfl)
    (of_decide_eq_true (by kernel_rfl)) (by unfold Func.isWrapper; first | (rw [if_pos (by decide +kernel)]; kernel_rfl) | (rw [if_neg (by decide +kernel)]; exact ⟨rfl, rfl⟩))
    (fun os started H enc _ => lifted os started H enc)

theorem proved : Rows.FnExactIsPartitionSaid := over
end Go.Proofs.Ytbfenibkbmkcaaa.exactIsPartition
