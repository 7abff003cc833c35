
/- The exact law of MeetPartitions: its model and its program do the same, in memory of their own. Written by wip/tools/gen_law.py. -/
import Derived.Test.YtgkfampgofjkfaaBase
import Derived.Test.YtgkfampgofjkfaaMeetI
set_option linter.unusedSimpArgs false
set_option linter.unusedVariables false
set_option linter.unusedSectionVars false
namespace Go.Proofs.Ytgkfampgofjkfaa.exactMeetPartitions
open Go.ChangeShapes Go.WideShapes Go.ChangeAt Go.RowKit
set_option maxHeartbeats 1000000 in
set_option maxRecDepth 100000 in
theorem main (w : World) (v0 : Value) (a0 : List Int) (v1 : Value) (a1 : List Int) (r0 : List Int) (r1 : Int) (h0 : In w v0 a0) (l0 : a0.length ≤ 1048576) (h1 : In w v1 a1) (l1 : a1.length ≤ 1048576) (hspec : (∀ (w : World) (v0 : Value) (v1 : Value), Rd w v0 a0 → Rd w v1 a1 → Calls Try.prog 22 #[v0, v1] w (RetLI w r0 r1))) (himpl : (∀ (w : World) (v0 : Value) (v1 : Value), Rd w v0 a0 → Rd w v1 a1 → Calls Try.prog 23 #[v0, v1] w (RetLI w r0 r1))) :
    Calls Try.prog 6 #[v0, v1] w (RetB w true) := by
  have HS := Lib.hid hspec; clear hspec
  have HI := Lib.hid himpl; clear himpl
  have R0 := h0.rd l0
  obtain ⟨b0, cap0, rfl, _⟩ := h0
  have R1 := h1.rd l1
  obtain ⟨b1, cap1, rfl, _⟩ := h1
  have hb : Below w.heap.size w w := Below.refl _ _
  go_enter Try.func6, Try.ntmps6
  go_wp2_with fail
  refine (to_any _ _ a0 (rd_below hb R0)).mono ?_
  rintro e1 u1 ⟨yt0, rfl, St0, hn1⟩
  replace St0 := St0.mono hb.size
  replace hb := hb.trans (hn1.mono hb.size)
  clear hn1
  go_wp2_with fail
  refine (to_any _ _ a1 (rd_below hb R1)).mono ?_
  rintro e2 u2 ⟨yt1, rfl, St1, hn2⟩
  have ap_t0_t1 := apart_of St0 St1
  replace St1 := St1.mono hb.size
  replace St0 := sl_below hn2 St0
  replace hb := hb.trans (hn2.mono hb.size)
  clear hn2
  go_wp2_with fail
  refine (HS.out _ _ _ (St0.rd) (St1.rd)).mono ?_
  rintro e3 u3 ⟨yw0, rfl, Sw0, hn3⟩
  have ap_t0_w0 := apart_of St0 Sw0
  have ap_t1_w0 := apart_of St1 Sw0
  replace Sw0 := Sw0.mono hb.size
  replace St0 := sl_below hn3 St0
  replace St1 := sl_below hn3 St1
  replace hb := hb.trans (hn3.mono hb.size)
  clear hn3
  clear St0
  clear St1
  go_wp2_with fail
  refine (to_any _ _ a0 (rd_below hb R0)).mono ?_
  rintro e4 u4 ⟨yx0, rfl, Sx0, hn4⟩
  have ap_w0_x0 := apart_of Sw0 Sx0
  replace Sx0 := Sx0.mono hb.size
  replace Sw0 := sl_below hn4 Sw0
  replace hb := hb.trans (hn4.mono hb.size)
  clear hn4
  go_wp2_with fail
  refine (to_any _ _ a1 (rd_below hb R1)).mono ?_
  rintro e5 u5 ⟨yx1, rfl, Sx1, hn5⟩
  have ap_w0_x1 := apart_of Sw0 Sx1
  have ap_x0_x1 := apart_of Sx0 Sx1
  replace Sx1 := Sx1.mono hb.size
  replace Sw0 := sl_below hn5 Sw0
  replace Sx0 := sl_below hn5 Sx0
  replace hb := hb.trans (hn5.mono hb.size)
  clear hn5
  go_wp2_with fail
  refine (HI.out _ _ _ (Sx0.rd) (Sx1.rd)).mono ?_
  rintro e6 u6 ⟨yg0, rfl, Sg0, hn6⟩
  have ap_w0_g0 := apart_of Sw0 Sg0
  have ap_x0_g0 := apart_of Sx0 Sg0
  have ap_x1_g0 := apart_of Sx1 Sg0
  replace Sg0 := Sg0.mono hb.size
  replace Sw0 := sl_below hn6 Sw0
  replace Sx0 := sl_below hn6 Sx0
  replace Sx1 := sl_below hn6 Sx1
  replace hb := hb.trans (hn6.mono hb.size)
  clear hn6
  go_wp2_with fail
  refine (eq_refl_any _ _ _ r0 (Sg0.rd) (Sw0.rd)).mono ?_
  rintro e7 u7 ⟨rfl, hn7⟩
  replace Sw0 := sl_below hn7 Sw0
  replace Sx0 := sl_below hn7 Sx0
  replace Sx1 := sl_below hn7 Sx1
  replace Sg0 := sl_below hn7 Sg0
  replace hb := hb.trans (hn7.mono hb.size)
  clear hn7
  go_wp2_with fail
  refine (to_any _ _ a0 (rd_below hb R0)).mono ?_
  rintro e8 u8 ⟨yc0, rfl, Sc0, hn8⟩
  have ap_w0_c0 := apart_of Sw0 Sc0
  have ap_x0_c0 := apart_of Sx0 Sc0
  have ap_x1_c0 := apart_of Sx1 Sc0
  have ap_g0_c0 := apart_of Sg0 Sc0
  replace Sc0 := Sc0.mono hb.size
  replace Sw0 := sl_below hn8 Sw0
  replace Sx0 := sl_below hn8 Sx0
  replace Sx1 := sl_below hn8 Sx1
  replace Sg0 := sl_below hn8 Sg0
  replace hb := hb.trans (hn8.mono hb.size)
  clear hn8
  go_wp2_with fail
  refine (eq_refl_any _ _ _ a0 (Sx0.rd) (Sc0.rd)).mono ?_
  rintro e9 u9 ⟨rfl, hn9⟩
  replace Sw0 := sl_below hn9 Sw0
  replace Sx0 := sl_below hn9 Sx0
  replace Sx1 := sl_below hn9 Sx1
  replace Sg0 := sl_below hn9 Sg0
  replace Sc0 := sl_below hn9 Sc0
  replace hb := hb.trans (hn9.mono hb.size)
  clear hn9
  clear Sc0
  go_wp2_with fail
  refine (to_any _ _ a1 (rd_below hb R1)).mono ?_
  rintro e10 u10 ⟨yc1, rfl, Sc1, hn10⟩
  have ap_w0_c1 := apart_of Sw0 Sc1
  have ap_x0_c1 := apart_of Sx0 Sc1
  have ap_x1_c1 := apart_of Sx1 Sc1
  have ap_g0_c1 := apart_of Sg0 Sc1
  replace Sc1 := Sc1.mono hb.size
  replace Sw0 := sl_below hn10 Sw0
  replace Sx0 := sl_below hn10 Sx0
  replace Sx1 := sl_below hn10 Sx1
  replace Sg0 := sl_below hn10 Sg0
  replace hb := hb.trans (hn10.mono hb.size)
  clear hn10
  go_wp2_with fail
  refine (eq_refl_any _ _ _ a1 (Sx1.rd) (Sc1.rd)).mono ?_
  rintro e11 u11 ⟨rfl, hn11⟩
  replace Sw0 := sl_below hn11 Sw0
  replace Sx0 := sl_below hn11 Sx0
  replace Sx1 := sl_below hn11 Sx1
  replace Sg0 := sl_below hn11 Sg0
  replace Sc1 := sl_below hn11 Sc1
  replace hb := hb.trans (hn11.mono hb.size)
  clear hn11
  clear Sc1
  go_wp2_with fail
  refine (mark_any _ _ _ a0 (1) Sx0 (by omega) (by first | omega | (have := Sw0.2; have := Sx0.2; have := Sx1.2; have := Sg0.2; omega))).mono ?_
  rintro e12 u12 ⟨rfl, Nx0, g12⟩
  replace Sw0 := sl_kept Sw0 g12 (apart_ne ap_w0_x0)
  replace Sx1 := sl_kept Sx1 g12 (apart_ne ap_x0_x1.symm)
  replace Sg0 := sl_kept Sg0 g12 (apart_ne ap_x0_g0.symm)
  replace hb := below_grown hb Sx0 (Nat.le_refl _) g12
  clear g12 Sx0
  have Sx0 := Nx0
  clear Nx0
  go_wp2_with fail
  refine (mark_any _ _ _ a1 (1 + (a0.length : Int)) Sx1 (by omega) (by first | omega | (have := Sw0.2; have := Sx0.2; have := Sx1.2; have := Sg0.2; omega))).mono ?_
  rintro e13 u13 ⟨rfl, Nx1, g13⟩
  replace Sw0 := sl_kept Sw0 g13 (apart_ne ap_w0_x1)
  replace Sx0 := sl_kept Sx0 g13 (apart_ne ap_x0_x1)
  replace Sg0 := sl_kept Sg0 g13 (apart_ne ap_x1_g0.symm)
  replace hb := below_grown hb Sx1 (Nat.le_refl _) g13
  clear g13 Sx1
  have Sx1 := Nx1
  clear Nx1
  go_wp2_with fail
  refine (eq_refl_any _ _ _ r0 (Sg0.rd) (Sw0.rd)).mono ?_
  rintro e14 u14 ⟨rfl, hn14⟩
  replace Sw0 := sl_below hn14 Sw0
  replace Sx0 := sl_below hn14 Sx0
  replace Sx1 := sl_below hn14 Sx1
  replace Sg0 := sl_below hn14 Sg0
  replace hb := hb.trans (hn14.mono hb.size)
  clear hn14
  clear Sx0
  clear Sx1
  go_wp2_with fail
  refine (mark_any _ _ _ r0 (1) Sg0 (by omega) (by first | omega | (have := Sw0.2; have := Sg0.2; omega))).mono ?_
  rintro e15 u15 ⟨rfl, Ng0, g15⟩
  replace Sw0 := sl_kept Sw0 g15 (apart_ne ap_w0_g0)
  replace hb := below_grown hb Sg0 (Nat.le_refl _) g15
  clear g15 Sg0
  have Sg0 := Ng0
  clear Ng0
  go_wp2_with fail
  refine (held_any _ _ r0.length (1) (Sg0.rd) (by omega) (by first | omega | (have := Sg0.2; rw [upTo_length] at this; omega))).mono ?_
  rintro e16 u16 ⟨rfl, hn16⟩
  replace Sw0 := sl_below hn16 Sw0
  replace Sg0 := sl_below hn16 Sg0
  replace hb := hb.trans (hn16.mono hb.size)
  clear hn16
  go_wp2_with fail
  refine (to_any _ _ a0 (rd_below hb R0)).mono ?_
  rintro e17 u17 ⟨yz0, rfl, Sz0, hn17⟩
  have ap_w0_z0 := apart_of Sw0 Sz0
  have ap_g0_z0 := apart_of Sg0 Sz0
  replace Sz0 := Sz0.mono hb.size
  replace Sw0 := sl_below hn17 Sw0
  replace Sg0 := sl_below hn17 Sg0
  replace hb := hb.trans (hn17.mono hb.size)
  clear hn17
  go_wp2_with fail
  refine (to_any _ _ a1 (rd_below hb R1)).mono ?_
  rintro e18 u18 ⟨yz1, rfl, Sz1, hn18⟩
  have ap_w0_z1 := apart_of Sw0 Sz1
  have ap_g0_z1 := apart_of Sg0 Sz1
  have ap_z0_z1 := apart_of Sz0 Sz1
  replace Sz1 := Sz1.mono hb.size
  replace Sw0 := sl_below hn18 Sw0
  replace Sg0 := sl_below hn18 Sg0
  replace Sz0 := sl_below hn18 Sz0
  replace hb := hb.trans (hn18.mono hb.size)
  clear hn18
  go_wp2_with fail
  refine (HI.out _ _ _ (Sz0.rd) (Sz1.rd)).mono ?_
  rintro e19 u19 ⟨yh0, rfl, Sh0, hn19⟩
  have ap_w0_h0 := apart_of Sw0 Sh0
  have ap_g0_h0 := apart_of Sg0 Sh0
  have ap_z0_h0 := apart_of Sz0 Sh0
  have ap_z1_h0 := apart_of Sz1 Sh0
  replace Sh0 := Sh0.mono hb.size
  replace Sw0 := sl_below hn19 Sw0
  replace Sg0 := sl_below hn19 Sg0
  replace Sz0 := sl_below hn19 Sz0
  replace Sz1 := sl_below hn19 Sz1
  replace hb := hb.trans (hn19.mono hb.size)
  clear hn19
  clear Sz0
  clear Sz1
  go_wp2_with fail
  refine (eq_refl_any _ _ _ r0 (Sh0.rd) (Sw0.rd)).mono ?_
  rintro e20 u20 ⟨rfl, hn20⟩
  replace Sw0 := sl_below hn20 Sw0
  replace Sg0 := sl_below hn20 Sg0
  replace Sh0 := sl_below hn20 Sh0
  replace hb := hb.trans (hn20.mono hb.size)
  clear hn20
  clear Sh0
  clear Sw0
  go_wp2_with fail
  refine (held_any _ _ r0.length (1) (Sg0.rd) (by omega) (by first | omega | (have := Sg0.2; rw [upTo_length] at this; omega))).mono ?_
  rintro e21 u21 ⟨rfl, hn21⟩
  replace Sg0 := sl_below hn21 Sg0
  replace hb := hb.trans (hn21.mono hb.size)
  clear hn21
  go_wp2
  go_ret
  exact ⟨rfl, hb⟩

set_option maxRecDepth 100000 in
theorem walk (w : World) (v0 : Value) (a0 : List Int) (v1 : Value) (a1 : List Int) (r0 : List Int) (r1 : Int) (h0 : In w v0 a0) (h1 : In w v1 a1) (hspec : (∀ (w : World) (v0 : Value) (v1 : Value), Rd w v0 a0 → Rd w v1 a1 → Calls Try.prog 22 #[v0, v1] w (RetLI w r0 r1))) (himpl : (∀ (w : World) (v0 : Value) (v1 : Value), Rd w v0 a0 → Rd w v1 a1 → Calls Try.prog 23 #[v0, v1] w (RetLI w r0 r1))) :
    Calls Try.prog 6 #[v0, v1] w (RetB w true) := by
  by_cases l0 : a0.length ≤ 1048576
  · skip
    by_cases l1 : a1.length ≤ 1048576
    · skip
      exact main w v0 a0 v1 a1 r0 r1 h0 l0 h1 l1 hspec himpl
    · clear hspec himpl
      obtain ⟨b0, cap0, rfl, m0, _⟩ := h0
      unfold maxLen at m0
      obtain ⟨b1, cap1, rfl, m1, _⟩ := h1
      unfold maxLen at m1
      go_enter Try.func6, Try.ntmps6
      go_wp2
      go_ret
      exact ⟨rfl, Below.refl _ _⟩
  · clear hspec himpl
    obtain ⟨b0, cap0, rfl, m0, _⟩ := h0
    unfold maxLen at m0
    obtain ⟨b1, cap1, rfl, m1, _⟩ := h1
    unfold maxLen at m1
    go_enter Try.func6, Try.ntmps6
    go_wp2
    go_ret
    exact ⟨rfl, Below.refl _ _⟩

set_option maxRecDepth 100000 in
theorem lifted (os : Os) (started : os.Started) (H : Type) (enc : TypeId × Value → H) :
    ReturnsInHanded {} Try.checked os 6 .any (Rows.fnExactMeetPartitionsSpec.pre6 enc Try.prog Try.f6 Rows.fnExactMeetPartitionsRow.domain false) (Rows.fnExactMeetPartitionsSpec.post enc Try.prog Try.f6 false true false false) := by
  refine returnsInHanded_of_change (C := Try.checked) own started (by kernel_rfl) Try.func6
    (ChangeSpec.witness6 (enc := enc) (C := Try.checked) false ⟨#[], #[.slice none 0 0, .slice none 0 0], []⟩ 8 (by kernel_rfl) (by kernel_rfl) (by kernel_rfl) (by kernel_rfl)) ?_
  intro W base args ds gs before hval0 hW _ _
  have hval : ∀ (j : Nat) t v, Try.f6.params[j]? = some t → args[j]? = some v → Value.okWide Try.prog W .any base t v := hval0
  have hW' := hW
  obtain ⟨p, q, hA0, hV, rfl, _, _⟩ := hW
  have hA : DataW.TrodAll enc Try.prog W 0 (fun _ => true) true Try.f6.params.toList args.toList ds p := hA0
  rw [Try.params6] at hA hval
  obtain ⟨v0, vs0, d0, ds0, p0, q0, hargs, rfl, rfl, t0, s0⟩ := trodAll_cons hA
  obtain ⟨v1, vs1, d1, ds1, p1, q1, rfl, rfl, rfl, t1, s1⟩ := trodAll_cons s0
  obtain ⟨rfl, rfl, rfl⟩ := trodAll_nil s1
  obtain rfl : args = #[v0, v1] := by cases args; simp_all
  obtain ⟨rfl, rfl⟩ := trodVars_none hV
  obtain ⟨a0, h0⟩ := open_in (hval 0 22 v0 rfl rfl) t0
  obtain ⟨a1, h1⟩ := open_in (hval 1 22 v1 rfl rfl) t1
  clear hA0 hval0
  refine (walk W v0 a0 v1 a1 (fMeetPartitions a0 a1).1 (fMeetPartitions a0 a1).2 h0 h1 (fun u v0 v1 k0 k1 => spec_MeetPartitions u v0 a0 v1 a1 k0 k1) (fun u v0 v1 k0 k1 => impl_MeetPartitions u v0 a0 v1 a1 k0 k1)).mono fun e W' ⟨he, hg⟩ => ?_
  subst he
  exact ⟨_, rfl, law_post rfl (by kernel_rfl) hW' (by kernel_rfl) rfl rfl rfl hg⟩

theorem over : Rows.fnExactMeetPartitionsRow.holds Try.pinned (OpenSpec.ofChange Rows.fnExactMeetPartitionsSpec) :=
  OpenClaim.holds_of_wide 6 Try.f6 rfl rfl rfl rfl rfl rfl rfl ⟨rfl, rfl, rfl, rfl, rfl⟩ rfl rfl rfl rfl rfl (by kernel_rfl) Try.func6 (by kernel_rfl)
    (of_decide_eq_true (by kernel_rfl)) (by unfold Func.isWrapper; first | (rw [if_pos (by decide +kernel)]; kernel_rfl) | (rw [if_neg (by decide +kernel)]; exact ⟨rfl, rfl⟩))
    (fun os started H enc _ => lifted os started H enc)

theorem proved : Rows.FnExactMeetPartitionsSaid := over
end Go.Proofs.Ytgkfampgofjkfaa.exactMeetPartitions
