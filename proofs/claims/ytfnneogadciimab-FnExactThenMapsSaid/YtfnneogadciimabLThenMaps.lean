
/- The exact law of ThenMaps: its model and its program do the same, in memory of their own. Written by wip/tools/gen_law.py. -/
import Derived.Test.YtfnneogadciimabBase
import Derived.Test.YtfnneogadciimabThM
set_option linter.unusedSimpArgs false
set_option linter.unusedVariables false
set_option linter.unusedSectionVars false
namespace Go.Proofs.Ytfnneogadciimab.exactThenMaps
open Go.ChangeShapes Go.WideShapes Go.ChangeAt Go.RowKit
set_option maxHeartbeats 1000000 in
set_option maxRecDepth 100000 in
theorem main (w : World) (a0 : Int) (v1 : Value) (a1 : List Int) (a2 : Int) (v3 : Value) (a3 : List Int) (r0 : List Int) (r1 : Int) (h1 : In w v1 a1) (l1 : a1.length ≤ 1048576) (h3 : In w v3 a3) (l3 : a3.length ≤ 1048576) (hspec : (∀ (w : World) (v1 : Value) (v3 : Value), Rd w v1 a1 → Rd w v3 a3 → Calls Try.prog 26 #[(.int .i64 a0), v1, (.int .i64 a2), v3] w (RetLI w r0 r1))) (himpl : (∀ (w : World) (v1 : Value) (v3 : Value), Rd w v1 a1 → Rd w v3 a3 → Calls Try.prog 28 #[(.int .i64 a0), v1, (.int .i64 a2), v3] w (RetLI w r0 r1))) :
    Calls Try.prog 5 #[(.int .i64 a0), v1, (.int .i64 a2), v3] w (RetB w true) := by
  have HS := Lib.hid hspec; clear hspec
  have HI := Lib.hid himpl; clear himpl
  have R1 := h1.rd l1
  obtain ⟨b1, cap1, rfl, _⟩ := h1
  have R3 := h3.rd l3
  obtain ⟨b3, cap3, rfl, _⟩ := h3
  have hb : Below w.heap.size w w := Below.refl _ _
  go_enter Try.func5, Try.ntmps5
  go_wp2_with fail
  refine (to_any _ _ a1 (rd_below hb R1)).mono ?_
  rintro e1 u1 ⟨yt1, rfl, St1, hn1⟩
  replace St1 := St1.mono hb.size
  replace hb := hb.trans (hn1.mono hb.size)
  clear hn1
  go_wp2_with fail
  refine (to_any _ _ a3 (rd_below hb R3)).mono ?_
  rintro e2 u2 ⟨yt3, rfl, St3, hn2⟩
  have ap_t1_t3 := apart_of St1 St3
  replace St3 := St3.mono hb.size
  replace St1 := sl_below hn2 St1
  replace hb := hb.trans (hn2.mono hb.size)
  clear hn2
  go_wp2_with fail
  refine (HS.out _ _ _ (St1.rd) (St3.rd)).mono ?_
  rintro e3 u3 ⟨yw0, rfl, Sw0, hn3⟩
  have ap_t1_w0 := apart_of St1 Sw0
  have ap_t3_w0 := apart_of St3 Sw0
  replace Sw0 := Sw0.mono hb.size
  replace St1 := sl_below hn3 St1
  replace St3 := sl_below hn3 St3
  replace hb := hb.trans (hn3.mono hb.size)
  clear hn3
  clear St1
  clear St3
  go_wp2_with fail
  refine (to_any _ _ a1 (rd_below hb R1)).mono ?_
  rintro e4 u4 ⟨yx1, rfl, Sx1, hn4⟩
  have ap_w0_x1 := apart_of Sw0 Sx1
  replace Sx1 := Sx1.mono hb.size
  replace Sw0 := sl_below hn4 Sw0
  replace hb := hb.trans (hn4.mono hb.size)
  clear hn4
  go_wp2_with fail
  refine (to_any _ _ a3 (rd_below hb R3)).mono ?_
  rintro e5 u5 ⟨yx3, rfl, Sx3, hn5⟩
  have ap_w0_x3 := apart_of Sw0 Sx3
  have ap_x1_x3 := apart_of Sx1 Sx3
  replace Sx3 := Sx3.mono hb.size
  replace Sw0 := sl_below hn5 Sw0
  replace Sx1 := sl_below hn5 Sx1
  replace hb := hb.trans (hn5.mono hb.size)
  clear hn5
  go_wp2_with fail
  refine (HI.out _ _ _ (Sx1.rd) (Sx3.rd)).mono ?_
  rintro e6 u6 ⟨yg0, rfl, Sg0, hn6⟩
  have ap_w0_g0 := apart_of Sw0 Sg0
  have ap_x1_g0 := apart_of Sx1 Sg0
  have ap_x3_g0 := apart_of Sx3 Sg0
  replace Sg0 := Sg0.mono hb.size
  replace Sw0 := sl_below hn6 Sw0
  replace Sx1 := sl_below hn6 Sx1
  replace Sx3 := sl_below hn6 Sx3
  replace hb := hb.trans (hn6.mono hb.size)
  clear hn6
  go_wp2_with fail
  refine (eq_refl_any _ _ _ r0 (Sg0.rd) (Sw0.rd)).mono ?_
  rintro e7 u7 ⟨rfl, hn7⟩
  replace Sw0 := sl_below hn7 Sw0
  replace Sx1 := sl_below hn7 Sx1
  replace Sx3 := sl_below hn7 Sx3
  replace Sg0 := sl_below hn7 Sg0
  replace hb := hb.trans (hn7.mono hb.size)
  clear hn7
  go_wp2_with fail
  refine (to_any _ _ a1 (rd_below hb R1)).mono ?_
  rintro e8 u8 ⟨yc1, rfl, Sc1, hn8⟩
  have ap_w0_c1 := apart_of Sw0 Sc1
  have ap_x1_c1 := apart_of Sx1 Sc1
  have ap_x3_c1 := apart_of Sx3 Sc1
  have ap_g0_c1 := apart_of Sg0 Sc1
  replace Sc1 := Sc1.mono hb.size
  replace Sw0 := sl_below hn8 Sw0
  replace Sx1 := sl_below hn8 Sx1
  replace Sx3 := sl_below hn8 Sx3
  replace Sg0 := sl_below hn8 Sg0
  replace hb := hb.trans (hn8.mono hb.size)
  clear hn8
  go_wp2_with fail
  refine (eq_refl_any _ _ _ a1 (Sx1.rd) (Sc1.rd)).mono ?_
  rintro e9 u9 ⟨rfl, hn9⟩
  replace Sw0 := sl_below hn9 Sw0
  replace Sx1 := sl_below hn9 Sx1
  replace Sx3 := sl_below hn9 Sx3
  replace Sg0 := sl_below hn9 Sg0
  replace Sc1 := sl_below hn9 Sc1
  replace hb := hb.trans (hn9.mono hb.size)
  clear hn9
  clear Sc1
  go_wp2_with fail
  refine (to_any _ _ a3 (rd_below hb R3)).mono ?_
  rintro e10 u10 ⟨yc3, rfl, Sc3, hn10⟩
  have ap_w0_c3 := apart_of Sw0 Sc3
  have ap_x1_c3 := apart_of Sx1 Sc3
  have ap_x3_c3 := apart_of Sx3 Sc3
  have ap_g0_c3 := apart_of Sg0 Sc3
  replace Sc3 := Sc3.mono hb.size
  replace Sw0 := sl_below hn10 Sw0
  replace Sx1 := sl_below hn10 Sx1
  replace Sx3 := sl_below hn10 Sx3
  replace Sg0 := sl_below hn10 Sg0
  replace hb := hb.trans (hn10.mono hb.size)
  clear hn10
  go_wp2_with fail
  refine (eq_refl_any _ _ _ a3 (Sx3.rd) (Sc3.rd)).mono ?_
  rintro e11 u11 ⟨rfl, hn11⟩
  replace Sw0 := sl_below hn11 Sw0
  replace Sx1 := sl_below hn11 Sx1
  replace Sx3 := sl_below hn11 Sx3
  replace Sg0 := sl_below hn11 Sg0
  replace Sc3 := sl_below hn11 Sc3
  replace hb := hb.trans (hn11.mono hb.size)
  clear hn11
  clear Sc3
  go_wp2_with fail
  refine (mark_any _ _ _ a1 (1) Sx1 (by omega) (by first | omega | (have := Sw0.2; have := Sx1.2; have := Sx3.2; have := Sg0.2; omega))).mono ?_
  rintro e12 u12 ⟨rfl, Nx1, g12⟩
  replace Sw0 := sl_kept Sw0 g12 (apart_ne ap_w0_x1)
  replace Sx3 := sl_kept Sx3 g12 (apart_ne ap_x1_x3.symm)
  replace Sg0 := sl_kept Sg0 g12 (apart_ne ap_x1_g0.symm)
  replace hb := below_grown hb Sx1 (Nat.le_refl _) g12
  clear g12 Sx1
  have Sx1 := Nx1
  clear Nx1
  go_wp2_with fail
  refine (mark_any _ _ _ a3 (1 + (a1.length : Int)) Sx3 (by omega) (by first | omega | (have := Sw0.2; have := Sx1.2; have := Sx3.2; have := Sg0.2; omega))).mono ?_
  rintro e13 u13 ⟨rfl, Nx3, g13⟩
  replace Sw0 := sl_kept Sw0 g13 (apart_ne ap_w0_x3)
  replace Sx1 := sl_kept Sx1 g13 (apart_ne ap_x1_x3)
  replace Sg0 := sl_kept Sg0 g13 (apart_ne ap_x3_g0.symm)
  replace hb := below_grown hb Sx3 (Nat.le_refl _) g13
  clear g13 Sx3
  have Sx3 := Nx3
  clear Nx3
  go_wp2_with fail
  refine (eq_refl_any _ _ _ r0 (Sg0.rd) (Sw0.rd)).mono ?_
  rintro e14 u14 ⟨rfl, hn14⟩
  replace Sw0 := sl_below hn14 Sw0
  replace Sx1 := sl_below hn14 Sx1
  replace Sx3 := sl_below hn14 Sx3
  replace Sg0 := sl_below hn14 Sg0
  replace hb := hb.trans (hn14.mono hb.size)
  clear hn14
  clear Sx1
  clear Sx3
  go_wp2_with fail
  refine (mark_any _ _ _ r0 (1) Sg0 (by omega) (by first | omega | (have := Sw0.2; have := Sg0.2; omega))).mono ?_
  rintro e15 u15 ⟨rfl, Ng0, g15⟩
  replace Sw0 := sl_kept Sw0 g15 (apart_ne ap_w0_g0)
  replace hb := below_grown hb Sg0 (Nat.le_refl _) g15
  clear g15 Sg0
  have Sg0 := Ng0
  clear Ng0
  go_wp2_with fail
  refine (held_any _ _ r0.length (1) (Sg0.rd) (by omega) (by first | omega | (have := Sg0.2; rw [upTo_length] at this; omega))).mono ?_
  rintro e16 u16 ⟨rfl, hn16⟩
  replace Sw0 := sl_below hn16 Sw0
  replace Sg0 := sl_below hn16 Sg0
  replace hb := hb.trans (hn16.mono hb.size)
  clear hn16
  go_wp2_with fail
  refine (to_any _ _ a1 (rd_below hb R1)).mono ?_
  rintro e17 u17 ⟨yz1, rfl, Sz1, hn17⟩
  have ap_w0_z1 := apart_of Sw0 Sz1
  have ap_g0_z1 := apart_of Sg0 Sz1
  replace Sz1 := Sz1.mono hb.size
  replace Sw0 := sl_below hn17 Sw0
  replace Sg0 := sl_below hn17 Sg0
  replace hb := hb.trans (hn17.mono hb.size)
  clear hn17
  go_wp2_with fail
  refine (to_any _ _ a3 (rd_below hb R3)).mono ?_
  rintro e18 u18 ⟨yz3, rfl, Sz3, hn18⟩
  have ap_w0_z3 := apart_of Sw0 Sz3
  have ap_g0_z3 := apart_of Sg0 Sz3
  have ap_z1_z3 := apart_of Sz1 Sz3
  replace Sz3 := Sz3.mono hb.size
  replace Sw0 := sl_below hn18 Sw0
  replace Sg0 := sl_below hn18 Sg0
  replace Sz1 := sl_below hn18 Sz1
  replace hb := hb.trans (hn18.mono hb.size)
  clear hn18
  go_wp2_with fail
  refine (HI.out _ _ _ (Sz1.rd) (Sz3.rd)).mono ?_
  rintro e19 u19 ⟨yh0, rfl, Sh0, hn19⟩
  have ap_w0_h0 := apart_of Sw0 Sh0
  have ap_g0_h0 := apart_of Sg0 Sh0
  have ap_z1_h0 := apart_of Sz1 Sh0
  have ap_z3_h0 := apart_of Sz3 Sh0
  replace Sh0 := Sh0.mono hb.size
  replace Sw0 := sl_below hn19 Sw0
  replace Sg0 := sl_below hn19 Sg0
  replace Sz1 := sl_below hn19 Sz1
  replace Sz3 := sl_below hn19 Sz3
  replace hb := hb.trans (hn19.mono hb.size)
  clear hn19
  clear Sz1
  clear Sz3
  go_wp2_with fail
  refine (eq_refl_any _ _ _ r0 (Sh0.rd) (Sw0.rd)).mono ?_
  rintro e20 u20 ⟨rfl, hn20⟩
  replace Sw0 := sl_below hn20 Sw0
  replace Sg0 := sl_below hn20 Sg0
  replace Sh0 := sl_below hn20 Sh0
  replace hb := hb.trans (hn20.mono hb.size)
  clear hn20
  clear Sh0
  clear Sw0
  go_wp2_with fail
  refine (held_any _ _ r0.length (1) (Sg0.rd) (by omega) (by first | omega | (have := Sg0.2; rw [upTo_length] at this; omega))).mono ?_
  rintro e21 u21 ⟨rfl, hn21⟩
  replace Sg0 := sl_below hn21 Sg0
  replace hb := hb.trans (hn21.mono hb.size)
  clear hn21
  go_wp2
  go_ret
  exact ⟨rfl, hb⟩

set_option maxRecDepth 100000 in
theorem walk (w : World) (a0 : Int) (v1 : Value) (a1 : List Int) (a2 : Int) (v3 : Value) (a3 : List Int) (r0 : List Int) (r1 : Int) (h1 : In w v1 a1) (h3 : In w v3 a3) (hspec : (∀ (w : World) (v1 : Value) (v3 : Value), Rd w v1 a1 → Rd w v3 a3 → Calls Try.prog 26 #[(.int .i64 a0), v1, (.int .i64 a2), v3] w (RetLI w r0 r1))) (himpl : (∀ (w : World) (v1 : Value) (v3 : Value), Rd w v1 a1 → Rd w v3 a3 → Calls Try.prog 28 #[(.int .i64 a0), v1, (.int .i64 a2), v3] w (RetLI w r0 r1))) :
    Calls Try.prog 5 #[(.int .i64 a0), v1, (.int .i64 a2), v3] w (RetB w true) := by
  by_cases l1 : a1.length ≤ 1048576
  · skip
    by_cases l3 : a3.length ≤ 1048576
    · skip
      exact main w a0 v1 a1 a2 v3 a3 r0 r1 h1 l1 h3 l3 hspec himpl
    · clear hspec himpl
      obtain ⟨b1, cap1, rfl, m1, _⟩ := h1
      unfold maxLen at m1
      obtain ⟨b3, cap3, rfl, m3, _⟩ := h3
      unfold maxLen at m3
      go_enter Try.func5, Try.ntmps5
      go_wp2
      go_ret
      exact ⟨rfl, Below.refl _ _⟩
  · clear hspec himpl
    obtain ⟨b1, cap1, rfl, m1, _⟩ := h1
    unfold maxLen at m1
    obtain ⟨b3, cap3, rfl, m3, _⟩ := h3
    unfold maxLen at m3
    go_enter Try.func5, Try.ntmps5
    go_wp2
    go_ret
    exact ⟨rfl, Below.refl _ _⟩

set_option maxRecDepth 100000 in
theorem lifted (os : Os) (started : os.Started) (H : Type) (enc : TypeId × Value → H) :
    ReturnsInHanded {} Try.checked os 5 .any (Rows.fnExactThenMapsSpec.pre6 enc Try.prog Try.f5 Rows.fnExactThenMapsRow.domain false) (Rows.fnExactThenMapsSpec.post enc Try.prog Try.f5 false true false false) := by
  refine returnsInHanded_of_change (C := Try.checked) own started (by kernel_rfl) Try.func5
    (ChangeSpec.witness6 (enc := enc) (C := Try.checked) false ⟨#[], #[.int .i64 0, .slice none 0 0, .int .i64 0, .slice none 0 0], []⟩ 8 (by kernel_rfl) (by kernel_rfl) (by kernel_rfl) (by kernel_rfl)) ?_
  intro W base args ds gs before hval0 hW _ _
  have hval : ∀ (j : Nat) t v, Try.f5.params[j]? = some t → args[j]? = some v → Value.okWide Try.prog W .any base t v := hval0
  have hW' := hW
  obtain ⟨p, q, hA0, hV, rfl, _, _⟩ := hW
  have hA : DataW.TrodAll enc Try.prog W 0 (fun _ => true) true Try.f5.params.toList args.toList ds p := hA0
  rw [Try.params5] at hA hval
  obtain ⟨v0, vs0, d0, ds0, p0, q0, hargs, rfl, rfl, t0, s0⟩ := trodAll_cons hA
  obtain ⟨v1, vs1, d1, ds1, p1, q1, rfl, rfl, rfl, t1, s1⟩ := trodAll_cons s0
  obtain ⟨v2, vs2, d2, ds2, p2, q2, rfl, rfl, rfl, t2, s2⟩ := trodAll_cons s1
  obtain ⟨v3, vs3, d3, ds3, p3, q3, rfl, rfl, rfl, t3, s3⟩ := trodAll_cons s2
  obtain ⟨rfl, rfl, rfl⟩ := trodAll_nil s3
  obtain rfl : args = #[v0, v1, v2, v3] := by cases args; simp_all
  obtain ⟨rfl, rfl⟩ := trodVars_none hV
  obtain ⟨a0, rfl, rfl, rfl, _⟩ := open_int Try.underlying2 (hval 0 2 v0 rfl rfl) t0
  obtain ⟨a1, h1⟩ := open_in (hval 1 22 v1 rfl rfl) t1
  obtain ⟨a2, rfl, rfl, rfl, _⟩ := open_int Try.underlying2 (hval 2 2 v2 rfl rfl) t2
  obtain ⟨a3, h3⟩ := open_in (hval 3 22 v3 rfl rfl) t3
  clear hA0 hval0
  refine (walk W a0 v1 a1 a2 v3 a3 (fThenMaps a0 a1 a2 a3).1 (fThenMaps a0 a1 a2 a3).2 h1 h3 (fun u v1 v3 k1 k3 => spec_ThenMaps u a0 v1 a1 a2 v3 a3 k1 k3) (fun u v1 v3 k1 k3 => impl_ThenMaps u a0 v1 a1 a2 v3 a3 k1 k3)).mono fun e W' ⟨he, hg⟩ => ?_
  subst he
  exact ⟨_, rfl, law_post rfl (by kernel_rfl) hW' (by kernel_rfl) rfl rfl rfl hg⟩

theorem over : Rows.fnExactThenMapsRow.holds Try.pinned (OpenSpec.ofChange Rows.fnExactThenMapsSpec) :=
  OpenClaim.holds_of_wide 5 Try.f5 rfl rfl rfl rfl rfl rfl rfl ⟨rfl, rfl, rfl, rfl, rfl⟩ rfl rfl rfl rfl rfl (by kernel_rfl) Try.func5 (by kernel_rfl)
    (of_decide_eq_true (by kernel_rfl)) (by unfold Func.isWrapper; first | (rw [if_pos (by decide +kernel)]; kernel_rfl) | (rw [if_neg (by decide +kernel)]; exact ⟨rfl, rfl⟩))
    (fun os started H enc _ => lifted os started H enc)

theorem proved : Rows.FnExactThenMapsSaid := over
end Go.Proofs.Ytfnneogadciimab.exactThenMaps
