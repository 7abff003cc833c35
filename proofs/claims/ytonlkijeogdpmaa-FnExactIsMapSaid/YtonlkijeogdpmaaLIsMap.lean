/- The exact law of IsMap: its model and its program do the same, in memory of their own. Written by wip/tools/gen_law.py. -/
import Derived.Test.YtonlkijeogdpmaaEq
import Derived.Test.YtonlkijeogdpmaaLaw
import Derived.Test.YtonlkijeogdpmaaMap
namespace Go.Proofs.Ytonlkijeogdpmaa.exactIsMap
open Go.ChangeShapes Go.WideShapes Go.ChangeAt Go.RowKit
set_option maxHeartbeats 1000000 in
set_option maxRecDepth 100000 in
theorem main (w : World) (a0 : Int) (v1 : Value) (a1 : List Int) (r0 : Bool) (h1 : In w v1 a1) (l1 : a1.length ≤ 1048576) (hspec : (∀ (w : World) (v1 : Value), Rd w v1 a1 → Calls Try.prog 50 #[(.int .i64 a0), v1] w (RetB w r0))) (himpl : (∀ (w : World) (v1 : Value), Rd w v1 a1 → Calls Try.prog 20 #[(.int .i64 a0), v1] w (RetB w r0))) :
    Calls Try.prog 8 #[(.int .i64 a0), v1] w (RetB w true) := by
  have HS := Lib.hid hspec; clear hspec
  have HI := Lib.hid himpl; clear himpl
  have R1 := h1.rd l1
  obtain ⟨b1, cap1, rfl, _⟩ := h1
  have hb : Below w.heap.size w w := Below.refl _ _
  go_enter Try.func8, Try.ntmps8
  go_wp2_with fail
  refine (to_any _ _ a1 (rd_below hb R1)).mono ?_
  rintro e1 u1 ⟨yt1, rfl, St1, hn1⟩
  replace St1 := St1.mono hb.size
  replace hb := hb.trans (hn1.mono hb.size)
  clear hn1
  go_wp2_with fail
  refine (HS.out _ _ (St1.rd)).mono ?_
  rintro e2 u2 ⟨rfl, hn2⟩
  replace St1 := sl_below hn2 St1
  replace hb := hb.trans (hn2.mono hb.size)
  clear hn2
  clear St1
  go_wp2_with fail
  refine (to_any _ _ a1 (rd_below hb R1)).mono ?_
  rintro e3 u3 ⟨yx1, rfl, Sx1, hn3⟩
  replace Sx1 := Sx1.mono hb.size
  replace hb := hb.trans (hn3.mono hb.size)
  clear hn3
  go_wp2_with fail
  refine (HI.out _ _ (Sx1.rd)).mono ?_
  rintro e4 u4 ⟨rfl, hn4⟩
  replace Sx1 := sl_below hn4 Sx1
  replace hb := hb.trans (hn4.mono hb.size)
  clear hn4
  go_wp2_with fail
  refine (to_any _ _ a1 (rd_below hb R1)).mono ?_
  rintro e5 u5 ⟨yc1, rfl, Sc1, hn5⟩
  have ap_x1_c1 := apart_of Sx1 Sc1
  replace Sc1 := Sc1.mono hb.size
  replace Sx1 := sl_below hn5 Sx1
  replace hb := hb.trans (hn5.mono hb.size)
  clear hn5
  go_wp2_with fail
  refine (eq_refl_any _ _ _ a1 (Sx1.rd) (Sc1.rd)).mono ?_
  rintro e6 u6 ⟨rfl, hn6⟩
  replace Sx1 := sl_below hn6 Sx1
  replace Sc1 := sl_below hn6 Sc1
  replace hb := hb.trans (hn6.mono hb.size)
  clear hn6
  clear Sc1
  go_wp2
  go_ret
  exact ⟨rfl, hb⟩

set_option maxRecDepth 100000 in
theorem walk (w : World) (a0 : Int) (v1 : Value) (a1 : List Int) (r0 : Bool) (h1 : In w v1 a1) (hspec : (∀ (w : World) (v1 : Value), Rd w v1 a1 → Calls Try.prog 50 #[(.int .i64 a0), v1] w (RetB w r0))) (himpl : (∀ (w : World) (v1 : Value), Rd w v1 a1 → Calls Try.prog 20 #[(.int .i64 a0), v1] w (RetB w r0))) :
    Calls Try.prog 8 #[(.int .i64 a0), v1] w (RetB w true) := by
  by_cases l1 : a1.length ≤ 1048576
  · skip
    exact main w a0 v1 a1 r0 h1 l1 hspec himpl
  · clear hspec himpl
    obtain ⟨b1, cap1, rfl, m1, _⟩ := h1
    unfold maxLen at m1
    go_enter Try.func8, Try.ntmps8
    go_wp2
    go_ret
    exact ⟨rfl, Below.refl _ _⟩

set_option maxRecDepth 100000 in
theorem lifted (os : Os) (started : os.Started) (H : Type) (enc : TypeId × Value → H) :
    ReturnsInHanded {} Try.checked os 8 .any (Rows.fnExactIsMapSpec.pre6 enc Try.prog Try.f8 Rows.fnExactIsMapRow.domain false) (Rows.fnExactIsMapSpec.post enc Try.prog Try.f8 false true false false) := by
  refine returnsInHanded_of_change (C := Try.checked) own started (by kernel_rfl) Try.func8
    (ChangeSpec.witness6 (enc := enc) (C := Try.checked) false ⟨#[], #[.int .i64 0, .slice none 0 0], []⟩ 8 (by kernel_rfl) (by kernel_rfl) (by kernel_rfl) (by kernel_rfl)) ?_
  intro W base args ds gs before hval0 hW _ _
  have hval : ∀ (j : Nat) t v, Try.f8.params[j]? = some t → args[j]? = some v → Value.okWide Try.prog W .any base t v := hval0
  have hW' := hW
  obtain ⟨p, q, hA0, hV, rfl, _, _⟩ := hW
  have hA : DataW.TrodAll enc Try.prog W 0 (fun _ => true) true Try.f8.params.toList args.toList ds p := hA0
  rw [Try.params8] at hA hval
  obtain ⟨v0, vs0, d0, ds0, p0, q0, hargs, rfl, rfl, t0, s0⟩ := trodAll_cons hA
  obtain ⟨v1, vs1, d1, ds1, p1, q1, rfl, rfl, rfl, t1, s1⟩ := trodAll_cons s0
  obtain ⟨rfl, rfl, rfl⟩ := trodAll_nil s1
  obtain rfl : args = #[v0, v1] := by cases args; simp_all
  obtain ⟨rfl, rfl⟩ := trodVars_none hV
  obtain ⟨a0, rfl, rfl, rfl, _⟩ := open_int Try.underlying2 (hval 0 2 v0 rfl rfl) t0
  obtain ⟨a1, h1⟩ := open_in (hval 1 24 v1 rfl rfl) t1
  clear hA0 hval0
  refine (walk W a0 v1 a1 (fIsMap a0 a1) h1 (fun u v1 k1 => spec_IsMap u a0 v1 a1 k1) (fun u v1 k1 => impl_IsMap u a0 v1 a1 k1)).mono fun e W' ⟨he, hg⟩ => ?_
  subst he
  exact ⟨_, rfl, law_post rfl (by kernel_rfl) hW' (by kernel_rfl) rfl rfl rfl hg⟩

theorem over : Rows.fnExactIsMapRow.holds Try.pinned (OpenSpec.ofChange Rows.fnExactIsMapSpec) :=
  OpenClaim.holds_of_wide 8 Try.f8 rfl rfl rfl rfl rfl rfl rfl ⟨rfl, rfl, rfl, rfl, rfl⟩ rfl rfl rfl rfl rfl (by kernel_rfl) Try.func8 (by kernel_rfl)
    (of_decide_eq_true (by kernel_rfl)) (by unfold Func.isWrapper; first | (rw [if_pos (by decide +kernel)]; kernel_rfl) | (rw [if_neg (by decide +kernel)]; exact ⟨rfl, rfl⟩))
    (fun os started H enc _ => lifted os started H enc)

theorem proved : Rows.FnExactIsMapSaid := over
end Go.Proofs.Ytonlkijeogdpmaa.exactIsMap
