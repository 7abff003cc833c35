/- The exact law of TupleNumber: its model and its program do the same, in memory of their own. Written by wip/tools/gen_law.py. -/
import Derived.Test.YtonlkijeogdpmabEq
import Derived.Test.YtonlkijeogdpmabLaw
import Derived.Test.YtonlkijeogdpmabTupNum
namespace Go.Proofs.Ytonlkijeogdpmab.exactTupleNumber
open Go.ChangeShapes Go.WideShapes Go.ChangeAt Go.RowKit
set_option maxHeartbeats 1000000 in
set_option maxRecDepth 100000 in
theorem main (w : World) (v0 : Value) (a0 : List Int) (v1 : Value) (a1 : List Int) (r0 : Int) (r1 : Int) (h0 : In w v0 a0) (l0 : a0.length ≤ 1048576) (h1 : In w v1 a1) (l1 : a1.length ≤ 1048576) (hspec : (∀ (w : World) (v0 : Value) (v1 : Value), Rd w v0 a0 → Rd w v1 a1 → Calls Try.prog 35 #[v0, v1] w (RetII w r0 r1))) (himpl : (∀ (w : World) (v0 : Value) (v1 : Value), Rd w v0 a0 → Rd w v1 a1 → Calls Try.prog 36 #[v0, v1] w (RetII w r0 r1))) :
    Calls Try.prog 10 #[v0, v1] w (RetB w true) := by
  have HS := Lib.hid hspec; clear hspec
  have HI := Lib.hid himpl; clear himpl
  have R0 := h0.rd l0
  obtain ⟨b0, cap0, rfl, _⟩ := h0
  have R1 := h1.rd l1
  obtain ⟨b1, cap1, rfl, _⟩ := h1
  have hb : Below w.heap.size w w := Below.refl _ _
  go_enter Try.func10, Try.ntmps10
  go_wp2_with fail
  refine (to_any _ _ a0 (rd_below hb R0)).mono ?_
  rintro e1 u1 ⟨yt0, rfl, St0, hn1⟩
  replace St0 := St0.mono hb.size
  replace hb := hb.trans (hn1.mono hb.size)
  clear hn1
  go_wp2_with fail
  refine (to_any _ _ a1 (rd_below hb R1)).mono ?_
  rintro e2 u2 ⟨yt1, rfl, St1, hn2⟩
  have ap_t0_t1 := apart_of St0 St1
  replace St1 := St1.mono hb.size
  replace St0 := sl_below hn2 St0
  replace hb := hb.trans (hn2.mono hb.size)
  clear hn2
  go_wp2_with fail
  refine (HS.out _ _ _ (St0.rd) (St1.rd)).mono ?_
  rintro e3 u3 ⟨rfl, hn3⟩
  replace St0 := sl_below hn3 St0
  replace St1 := sl_below hn3 St1
  replace hb := hb.trans (hn3.mono hb.size)
  clear hn3
  clear St0
  clear St1
  go_wp2_with fail
  refine (to_any _ _ a0 (rd_below hb R0)).mono ?_
  rintro e4 u4 ⟨yx0, rfl, Sx0, hn4⟩
  replace Sx0 := Sx0.mono hb.size
  replace hb := hb.trans (hn4.mono hb.size)
  clear hn4
  go_wp2_with fail
  refine (to_any _ _ a1 (rd_below hb R1)).mono ?_
  rintro e5 u5 ⟨yx1, rfl, Sx1, hn5⟩
  have ap_x0_x1 := apart_of Sx0 Sx1
  replace Sx1 := Sx1.mono hb.size
  replace Sx0 := sl_below hn5 Sx0
  replace hb := hb.trans (hn5.mono hb.size)
  clear hn5
  go_wp2_with fail
  refine (HI.out _ _ _ (Sx0.rd) (Sx1.rd)).mono ?_
  rintro e6 u6 ⟨rfl, hn6⟩
  replace Sx0 := sl_below hn6 Sx0
  replace Sx1 := sl_below hn6 Sx1
  replace hb := hb.trans (hn6.mono hb.size)
  clear hn6
  go_wp2_with fail
  refine (to_any _ _ a0 (rd_below hb R0)).mono ?_
  rintro e7 u7 ⟨yc0, rfl, Sc0, hn7⟩
  have ap_x0_c0 := apart_of Sx0 Sc0
  have ap_x1_c0 := apart_of Sx1 Sc0
  replace Sc0 := Sc0.mono hb.size
  replace Sx0 := sl_below hn7 Sx0
  replace Sx1 := sl_below hn7 Sx1
  replace hb := hb.trans (hn7.mono hb.size)
  clear hn7
  go_wp2_with fail
  refine (eq_refl_any _ _ _ a0 (Sx0.rd) (Sc0.rd)).mono ?_
  rintro e8 u8 ⟨rfl, hn8⟩
  replace Sx0 := sl_below hn8 Sx0
  replace Sx1 := sl_below hn8 Sx1
  replace Sc0 := sl_below hn8 Sc0
  replace hb := hb.trans (hn8.mono hb.size)
  clear hn8
  clear Sc0
  go_wp2_with fail
  refine (to_any _ _ a1 (rd_below hb R1)).mono ?_
  rintro e9 u9 ⟨yc1, rfl, Sc1, hn9⟩
  have ap_x0_c1 := apart_of Sx0 Sc1
  have ap_x1_c1 := apart_of Sx1 Sc1
  replace Sc1 := Sc1.mono hb.size
  replace Sx0 := sl_below hn9 Sx0
  replace Sx1 := sl_below hn9 Sx1
  replace hb := hb.trans (hn9.mono hb.size)
  clear hn9
  go_wp2_with fail
  refine (eq_refl_any _ _ _ a1 (Sx1.rd) (Sc1.rd)).mono ?_
  rintro e10 u10 ⟨rfl, hn10⟩
  replace Sx0 := sl_below hn10 Sx0
  replace Sx1 := sl_below hn10 Sx1
  replace Sc1 := sl_below hn10 Sc1
  replace hb := hb.trans (hn10.mono hb.size)
  clear hn10
  clear Sc1
  go_wp2
  go_ret
  exact ⟨rfl, hb⟩

set_option maxRecDepth 100000 in
theorem walk (w : World) (v0 : Value) (a0 : List Int) (v1 : Value) (a1 : List Int) (r0 : Int) (r1 : Int) (h0 : In w v0 a0) (h1 : In w v1 a1) (hspec : (∀ (w : World) (v0 : Value) (v1 : Value), Rd w v0 a0 → Rd w v1 a1 → Calls Try.prog 35 #[v0, v1] w (RetII w r0 r1))) (himpl : (∀ (w : World) (v0 : Value) (v1 : Value), Rd w v0 a0 → Rd w v1 a1 → Calls Try.prog 36 #[v0, v1] w (RetII w r0 r1))) :
    Calls Try.prog 10 #[v0, v1] w (RetB w true) := by
  by_cases l0 : a0.length ≤ 1048576
  · skip
    by_cases l1 : a1.length ≤ 1048576
    · skip
      exact main w v0 a0 v1 a1 r0 r1 h0 l0 h1 l1 hspec himpl
    · clear hspec himpl
      obtain ⟨b0, cap0, rfl, m0, _⟩ := h0
      unfold maxLen at m0
      obtain ⟨b1, cap1, rfl, m1, _⟩ := h1
      unfold maxLen at m1
      go_enter Try.func10, Try.ntmps10
      go_wp2
      go_ret
      exact ⟨rfl, Below.refl _ _⟩
  · clear hspec himpl
    obtain ⟨b0, cap0, rfl, m0, _⟩ := h0
    unfold maxLen at m0
    obtain ⟨b1, cap1, rfl, m1, _⟩ := h1
    unfold maxLen at m1
    go_enter Try.func10, Try.ntmps10
    go_wp2
    go_ret
    exact ⟨rfl, Below.refl _ _⟩

set_option maxRecDepth 100000 in
theorem lifted (os : Os) (started : os.Started) (H : Type) (enc : TypeId × Value → H) :
    ReturnsInHanded {} Try.checked os 10 .any (Rows.fnExactTupleNumberSpec.pre6 enc Try.prog Try.f10 Rows.fnExactTupleNumberRow.domain false) (Rows.fnExactTupleNumberSpec.post enc Try.prog Try.f10 false true false false) := by
  refine returnsInHanded_of_change (C := Try.checked) own started (by kernel_rfl) Try.func10
    (ChangeSpec.witness6 (enc := enc) (C := Try.checked) false ⟨#[], #[.slice none 0 0, .slice none 0 0], []⟩ 8 (by kernel_rfl) (by kernel_rfl) (by kernel_rfl) (by kernel_rfl)) ?_
  intro W base args ds gs before hval0 hW _ _
  have hval : ∀ (j : Nat) t v, Try.f10.params[j]? = some t → args[j]? = some v → Value.okWide Try.prog W .any base t v := hval0
  have hW' := hW
  obtain ⟨p, q, hA0, hV, rfl, _, _⟩ := hW
  have hA : DataW.TrodAll enc Try.prog W 0 (fun _ => true) true Try.f10.params.toList args.toList ds p := hA0
  rw [Try.params10] at hA hval
  obtain ⟨v0, vs0, d0, ds0, p0, q0, hargs, rfl, rfl, t0, s0⟩ := trodAll_cons hA
  obtain ⟨v1, vs1, d1, ds1, p1, q1, rfl, rfl, rfl, t1, s1⟩ := trodAll_cons s0
  obtain ⟨rfl, rfl, rfl⟩ := trodAll_nil s1
  obtain rfl : args = #[v0, v1] := by cases args; simp_all
  obtain ⟨rfl, rfl⟩ := trodVars_none hV
  obtain ⟨a0, h0⟩ := open_in (hval 0 24 v0 rfl rfl) t0
  obtain ⟨a1, h1⟩ := open_in (hval 1 24 v1 rfl rfl) t1
  clear hA0 hval0
  refine (walk W v0 a0 v1 a1 (fTupleNumber a0 a1).1 (fTupleNumber a0 a1).2 h0 h1 (fun u v0 v1 k0 k1 => spec_TupleNumber u v0 a0 v1 a1 k0 k1) (fun u v0 v1 k0 k1 => impl_TupleNumber u v0 a0 v1 a1 k0 k1)).mono fun e W' ⟨he, hg⟩ => ?_
  subst he
  exact ⟨_, rfl, law_post rfl (by kernel_rfl) hW' (by kernel_rfl) rfl rfl rfl hg⟩

theorem over : Rows.fnExactTupleNumberRow.holds Try.pinned (OpenSpec.ofChange Rows.fnExactTupleNumberSpec) :=
  OpenClaim.holds_of_wide 10 Try.f10 rfl rfl rfl rfl rfl rfl rfl ⟨rfl, rfl, rfl, rfl, rfl⟩ rfl rfl rfl rfl rfl (by kernel_rfl) Try.func10 (by kernel_rfl)
    (of_decide_eq_true (by kernel_rfl)) (by unfold Func.isWrapper; first | (rw [if_pos (by decide +kernel)]; kernel_rfl) | (rw [if_neg (by decide +kernel)]; exact ⟨rfl, rfl⟩))
    (fun os started H enc _ => lifted os started H enc)

theorem proved : Rows.FnExactTupleNumberSaid := over
end Go.Proofs.Ytonlkijeogdpmab.exactTupleNumber
