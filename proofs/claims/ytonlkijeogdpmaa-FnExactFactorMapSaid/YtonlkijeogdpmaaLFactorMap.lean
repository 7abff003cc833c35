/- The exact law of FactorMap: its model and its program do the same, in memory of their own. Written by wip/tools/gen_law.py. -/
import Derived.Test.YtonlkijeogdpmaaEq
import Derived.Test.YtonlkijeogdpmaaLaw
import Derived.Test.YtonlkijeogdpmaaFact
namespace Go.Proofs.Ytonlkijeogdpmaa.exactFactorMap
open Go.ChangeShapes Go.WideShapes Go.ChangeAt Go.RowKit
set_option maxHeartbeats 1000000 in
set_option maxRecDepth 100000 in
theorem main (w : World) (a0 : Int) (v1 : Value) (a1 : List Int) (r0 : List Int) (r1 : List Int) (r2 : Int) (h1 : In w v1 a1) (l1 : a1.length ≤ 1048576) (hspec : (∀ (w : World) (v1 : Value), Rd w v1 a1 → Calls Try.prog 18 #[(.int .i64 a0), v1] w (RetLLI w r0 r1 r2))) (himpl : (∀ (w : World) (v1 : Value), Rd w v1 a1 → Calls Try.prog 17 #[(.int .i64 a0), v1] w (RetLLI w r0 r1 r2))) :
    Calls Try.prog 12 #[(.int .i64 a0), v1] w (RetB w true) := by
  have HS := Lib.hid hspec; clear hspec
  have HI := Lib.hid himpl; clear himpl
  have R1 := h1.rd l1
  obtain ⟨b1, cap1, rfl, _⟩ := h1
  have hb : Below w.heap.size w w := Below.refl _ _
  go_enter Try.func12, Try.ntmps12
  go_wp2_with fail
  refine (to_any _ _ a1 (rd_below hb R1)).mono ?_
  rintro e1 u1 ⟨yt1, rfl, St1, hn1⟩
  replace St1 := St1.mono hb.size
  replace hb := hb.trans (hn1.mono hb.size)
  clear hn1
  go_wp2_with fail
  refine (HS.out _ _ (St1.rd)).mono ?_
  rintro e2 u2 ⟨yw0, yw1, rfl, Sw0, Sw1, ap_w0_w1, hn2⟩
  have ap_t1_w0 := apart_of St1 Sw0
  replace Sw0 := Sw0.mono hb.size
  have ap_t1_w1 := apart_of St1 Sw1
  replace Sw1 := Sw1.mono hb.size
  replace St1 := sl_below hn2 St1
  replace hb := hb.trans (hn2.mono hb.size)
  clear hn2
  clear St1
  go_wp2_with fail
  refine (to_any _ _ a1 (rd_below hb R1)).mono ?_
  rintro e3 u3 ⟨yx1, rfl, Sx1, hn3⟩
  have ap_w0_x1 := apart_of Sw0 Sx1
  have ap_w1_x1 := apart_of Sw1 Sx1
  replace Sx1 := Sx1.mono hb.size
  replace Sw0 := sl_below hn3 Sw0
  replace Sw1 := sl_below hn3 Sw1
  replace hb := hb.trans (hn3.mono hb.size)
  clear hn3
  go_wp2_with fail
  refine (HI.out _ _ (Sx1.rd)).mono ?_
  rintro e4 u4 ⟨yg0, yg1, rfl, Sg0, Sg1, ap_g0_g1, hn4⟩
  have ap_w0_g0 := apart_of Sw0 Sg0
  have ap_w1_g0 := apart_of Sw1 Sg0
  have ap_x1_g0 := apart_of Sx1 Sg0
  replace Sg0 := Sg0.mono hb.size
  have ap_w0_g1 := apart_of Sw0 Sg1
  have ap_w1_g1 := apart_of Sw1 Sg1
  have ap_x1_g1 := apart_of Sx1 Sg1
  replace Sg1 := Sg1.mono hb.size
  replace Sw0 := sl_below hn4 Sw0
  replace Sw1 := sl_below hn4 Sw1
  replace Sx1 := sl_below hn4 Sx1
  replace hb := hb.trans (hn4.mono hb.size)
  clear hn4
  go_wp2_with fail
  refine (eq_refl_any _ _ _ r0 (Sg0.rd) (Sw0.rd)).mono ?_
  rintro e5 u5 ⟨rfl, hn5⟩
  replace Sw0 := sl_below hn5 Sw0
  replace Sw1 := sl_below hn5 Sw1
  replace Sx1 := sl_below hn5 Sx1
  replace Sg0 := sl_below hn5 Sg0
  replace Sg1 := sl_below hn5 Sg1
  replace hb := hb.trans (hn5.mono hb.size)
  clear hn5
  go_wp2_with fail
  refine (eq_refl_any _ _ _ r1 (Sg1.rd) (Sw1.rd)).mono ?_
  rintro e6 u6 ⟨rfl, hn6⟩
  replace Sw0 := sl_below hn6 Sw0
  replace Sw1 := sl_below hn6 Sw1
  replace Sx1 := sl_below hn6 Sx1
  replace Sg0 := sl_below hn6 Sg0
  replace Sg1 := sl_below hn6 Sg1
  replace hb := hb.trans (hn6.mono hb.size)
  clear hn6
  go_wp2_with fail
  refine (to_any _ _ a1 (rd_below hb R1)).mono ?_
  rintro e7 u7 ⟨yc1, rfl, Sc1, hn7⟩
  have ap_w0_c1 := apart_of Sw0 Sc1
  have ap_w1_c1 := apart_of Sw1 Sc1
  have ap_x1_c1 := apart_of Sx1 Sc1
  have ap_g0_c1 := apart_of Sg0 Sc1
  have ap_g1_c1 := apart_of Sg1 Sc1
  replace Sc1 := Sc1.mono hb.size
  replace Sw0 := sl_below hn7 Sw0
  replace Sw1 := sl_below hn7 Sw1
  replace Sx1 := sl_below hn7 Sx1
  replace Sg0 := sl_below hn7 Sg0
  replace Sg1 := sl_below hn7 Sg1
  replace hb := hb.trans (hn7.mono hb.size)
  clear hn7
  go_wp2_with fail
  refine (eq_refl_any _ _ _ a1 (Sx1.rd) (Sc1.rd)).mono ?_
  rintro e8 u8 ⟨rfl, hn8⟩
  replace Sw0 := sl_below hn8 Sw0
  replace Sw1 := sl_below hn8 Sw1
  replace Sx1 := sl_below hn8 Sx1
  replace Sg0 := sl_below hn8 Sg0
  replace Sg1 := sl_below hn8 Sg1
  replace Sc1 := sl_below hn8 Sc1
  replace hb := hb.trans (hn8.mono hb.size)
  clear hn8
  clear Sc1
  go_wp2_with fail
  refine (mark_any _ _ _ a1 (1) Sx1 (by omega) (by first | omega | (have := Sw0.2; have := Sw1.2; have := Sx1.2; have := Sg0.2; have := Sg1.2; omega))).mono ?_
  rintro e9 u9 ⟨rfl, Nx1, g9⟩
  replace Sw0 := sl_kept Sw0 g9 (apart_ne ap_w0_x1)
  replace Sw1 := sl_kept Sw1 g9 (apart_ne ap_w1_x1)
  replace Sg0 := sl_kept Sg0 g9 (apart_ne ap_x1_g0.symm)
  replace Sg1 := sl_kept Sg1 g9 (apart_ne ap_x1_g1.symm)
  replace hb := below_grown hb Sx1 (Nat.le_refl _) g9
  clear g9 Sx1
  have Sx1 := Nx1
  clear Nx1
  go_wp2_with fail
  refine (eq_refl_any _ _ _ r0 (Sg0.rd) (Sw0.rd)).mono ?_
  rintro e10 u10 ⟨rfl, hn10⟩
  replace Sw0 := sl_below hn10 Sw0
  replace Sw1 := sl_below hn10 Sw1
  replace Sx1 := sl_below hn10 Sx1
  replace Sg0 := sl_below hn10 Sg0
  replace Sg1 := sl_below hn10 Sg1
  replace hb := hb.trans (hn10.mono hb.size)
  clear hn10
  go_wp2_with fail
  refine (eq_refl_any _ _ _ r1 (Sg1.rd) (Sw1.rd)).mono ?_
  rintro e11 u11 ⟨rfl, hn11⟩
  replace Sw0 := sl_below hn11 Sw0
  replace Sw1 := sl_below hn11 Sw1
  replace Sx1 := sl_below hn11 Sx1
  replace Sg0 := sl_below hn11 Sg0
  replace Sg1 := sl_below hn11 Sg1
  replace hb := hb.trans (hn11.mono hb.size)
  clear hn11
  clear Sx1
  go_wp2_with fail
  refine (mark_any _ _ _ r0 (1) Sg0 (by omega) (by first | omega | (have := Sw0.2; have := Sw1.2; have := Sg0.2; have := Sg1.2; omega))).mono ?_
  rintro e12 u12 ⟨rfl, Ng0, g12⟩
  replace Sw0 := sl_kept Sw0 g12 (apart_ne ap_w0_g0)
  replace Sw1 := sl_kept Sw1 g12 (apart_ne ap_w1_g0)
  replace Sg1 := sl_kept Sg1 g12 (apart_ne ap_g0_g1.symm)
  replace hb := below_grown hb Sg0 (Nat.le_refl _) g12
  clear g12 Sg0
  have Sg0 := Ng0
  clear Ng0
  go_wp2_with fail
  refine (mark_any _ _ _ r1 (1 + (r0.length : Int)) Sg1 (by omega) (by first | omega | (have := Sw0.2; have := Sw1.2; have := Sg0.2; have := Sg1.2; omega))).mono ?_
  rintro e13 u13 ⟨rfl, Ng1, g13⟩
  replace Sw0 := sl_kept Sw0 g13 (apart_ne ap_w0_g1)
  replace Sw1 := sl_kept Sw1 g13 (apart_ne ap_w1_g1)
  replace Sg0 := sl_kept Sg0 g13 (apart_ne ap_g0_g1)
  replace hb := below_grown hb Sg1 (Nat.le_refl _) g13
  clear g13 Sg1
  have Sg1 := Ng1
  clear Ng1
  go_wp2_with fail
  refine (held_any _ _ r0.length (1) (Sg0.rd) (by omega) (by first | omega | (have := Sg0.2; rw [upTo_length] at this; have := Sg1.2; rw [upTo_length] at this; omega))).mono ?_
  rintro e14 u14 ⟨rfl, hn14⟩
  replace Sw0 := sl_below hn14 Sw0
  replace Sw1 := sl_below hn14 Sw1
  replace Sg0 := sl_below hn14 Sg0
  replace Sg1 := sl_below hn14 Sg1
  replace hb := hb.trans (hn14.mono hb.size)
  clear hn14
  go_wp2_with fail
  refine (held_any _ _ r1.length (1 + (r0.length : Int)) (Sg1.rd) (by omega) (by first | omega | (have := Sg0.2; rw [upTo_length] at this; have := Sg1.2; rw [upTo_length] at this; omega))).mono ?_
  rintro e15 u15 ⟨rfl, hn15⟩
  replace Sw0 := sl_below hn15 Sw0
  replace Sw1 := sl_below hn15 Sw1
  replace Sg0 := sl_below hn15 Sg0
  replace Sg1 := sl_below hn15 Sg1
  replace hb := hb.trans (hn15.mono hb.size)
  clear hn15
  go_wp2_with fail
  refine (to_any _ _ a1 (rd_below hb R1)).mono ?_
  rintro e16 u16 ⟨yz1, rfl, Sz1, hn16⟩
  have ap_w0_z1 := apart_of Sw0 Sz1
  have ap_w1_z1 := apart_of Sw1 Sz1
  have ap_g0_z1 := apart_of Sg0 Sz1
  have ap_g1_z1 := apart_of Sg1 Sz1
  replace Sz1 := Sz1.mono hb.size
  replace Sw0 := sl_below hn16 Sw0
  replace Sw1 := sl_below hn16 Sw1
  replace Sg0 := sl_below hn16 Sg0
  replace Sg1 := sl_below hn16 Sg1
  replace hb := hb.trans (hn16.mono hb.size)
  clear hn16
  go_wp2_with fail
  refine (HI.out _ _ (Sz1.rd)).mono ?_
  rintro e17 u17 ⟨yh0, yh1, rfl, Sh0, Sh1, ap_h0_h1, hn17⟩
  have ap_w0_h0 := apart_of Sw0 Sh0
  have ap_w1_h0 := apart_of Sw1 Sh0
  have ap_g0_h0 := apart_of Sg0 Sh0
  have ap_g1_h0 := apart_of Sg1 Sh0
  have ap_z1_h0 := apart_of Sz1 Sh0
  replace Sh0 := Sh0.mono hb.size
  have ap_w0_h1 := apart_of Sw0 Sh1
  have ap_w1_h1 := apart_of Sw1 Sh1
  have ap_g0_h1 := apart_of Sg0 Sh1
  have ap_g1_h1 := apart_of Sg1 Sh1
  have ap_z1_h1 := apart_of Sz1 Sh1
  replace Sh1 := Sh1.mono hb.size
  replace Sw0 := sl_below hn17 Sw0
  replace Sw1 := sl_below hn17 Sw1
  replace Sg0 := sl_below hn17 Sg0
  replace Sg1 := sl_below hn17 Sg1
  replace Sz1 := sl_below hn17 Sz1
  replace hb := hb.trans (hn17.mono hb.size)
  clear hn17
  clear Sz1
  go_wp2_with fail
  refine (eq_refl_any _ _ _ r0 (Sh0.rd) (Sw0.rd)).mono ?_
  rintro e18 u18 ⟨rfl, hn18⟩
  replace Sw0 := sl_below hn18 Sw0
  replace Sw1 := sl_below hn18 Sw1
  replace Sg0 := sl_below hn18 Sg0
  replace Sg1 := sl_below hn18 Sg1
  replace Sh0 := sl_below hn18 Sh0
  replace Sh1 := sl_below hn18 Sh1
  replace hb := hb.trans (hn18.mono hb.size)
  clear hn18
  go_wp2_with fail
  refine (eq_refl_any _ _ _ r1 (Sh1.rd) (Sw1.rd)).mono ?_
  rintro e19 u19 ⟨rfl, hn19⟩
  replace Sw0 := sl_below hn19 Sw0
  replace Sw1 := sl_below hn19 Sw1
  replace Sg0 := sl_below hn19 Sg0
  replace Sg1 := sl_below hn19 Sg1
  replace Sh0 := sl_below hn19 Sh0
  replace Sh1 := sl_below hn19 Sh1
  replace hb := hb.trans (hn19.mono hb.size)
  clear hn19
  clear Sh0
  clear Sw0
  clear Sh1
  clear Sw1
  go_wp2_with fail
  refine (held_any _ _ r0.length (1) (Sg0.rd) (by omega) (by first | omega | (have := Sg0.2; rw [upTo_length] at this; have := Sg1.2; rw [upTo_length] at this; omega))).mono ?_
  rintro e20 u20 ⟨rfl, hn20⟩
  replace Sg0 := sl_below hn20 Sg0
  replace Sg1 := sl_below hn20 Sg1
  replace hb := hb.trans (hn20.mono hb.size)
  clear hn20
  go_wp2_with fail
  refine (held_any _ _ r1.length (1 + (r0.length : Int)) (Sg1.rd) (by omega) (by first | omega | (have := Sg0.2; rw [upTo_length] at this; have := Sg1.2; rw [upTo_length] at this; omega))).mono ?_
  rintro e21 u21 ⟨rfl, hn21⟩
  replace Sg0 := sl_below hn21 Sg0
  replace Sg1 := sl_below hn21 Sg1
  replace hb := hb.trans (hn21.mono hb.size)
  clear hn21
  go_wp2
  go_ret
  exact ⟨rfl, hb⟩

set_option maxRecDepth 100000 in
theorem walk (w : World) (a0 : Int) (v1 : Value) (a1 : List Int) (r0 : List Int) (r1 : List Int) (r2 : Int) (h1 : In w v1 a1) (hspec : (∀ (w : World) (v1 : Value), Rd w v1 a1 → Calls Try.prog 18 #[(.int .i64 a0), v1] w (RetLLI w r0 r1 r2))) (himpl : (∀ (w : World) (v1 : Value), Rd w v1 a1 → Calls Try.prog 17 #[(.int .i64 a0), v1] w (RetLLI w r0 r1 r2))) :
    Calls Try.prog 12 #[(.int .i64 a0), v1] w (RetB w true) := by
  by_cases l1 : a1.length ≤ 1048576
  · skip
    exact main w a0 v1 a1 r0 r1 r2 h1 l1 hspec himpl
  · clear hspec himpl
    obtain ⟨b1, cap1, rfl, m1, _⟩ := h1
    unfold maxLen at m1
    go_enter Try.func12, Try.ntmps12
    go_wp2
    go_ret
    exact ⟨rfl, Below.refl _ _⟩

set_option maxRecDepth 100000 in
theorem lifted (os : Os) (started : os.Started) (H : Type) (enc : TypeId × Value → H) :
    ReturnsInHanded {} Try.checked os 12 .any (Rows.fnExactFactorMapSpec.pre6 enc Try.prog Try.f12 Rows.fnExactFactorMapRow.domain false) (Rows.fnExactFactorMapSpec.post enc Try.prog Try.f12 false true false false) := by
  refine returnsInHanded_of_change (C := Try.checked) own started (by kernel_rfl) Try.func12
    (ChangeSpec.witness6 (enc := enc) (C := Try.checked) false ⟨#[], #[.int .i64 0, .slice none 0 0], []⟩ 8 (by kernel_rfl) (by kernel_rfl) (by kernel_rfl) (by kernel_rfl)) ?_
  intro W base args ds gs before hval0 hW _ _
  have hval : ∀ (j : Nat) t v, Try.f12.params[j]? = some t → args[j]? = some v → Value.okWide Try.prog W .any base t v := hval0
  have hW' := hW
  obtain ⟨p, q, hA0, hV, rfl, _, _⟩ := hW
  have hA : DataW.TrodAll enc Try.prog W 0 (fun _ => true) true Try.f12.params.toList args.toList ds p := hA0
  rw [Try.params12] at hA hval
  obtain ⟨v0, vs0, d0, ds0, p0, q0, hargs, rfl, rfl, t0, s0⟩ := trodAll_cons hA
  obtain ⟨v1, vs1, d1, ds1, p1, q1, rfl, rfl, rfl, t1, s1⟩ := trodAll_cons s0
  obtain ⟨rfl, rfl, rfl⟩ := trodAll_nil s1
  obtain rfl : args = #[v0, v1] := by cases args; simp_all
  obtain ⟨rfl, rfl⟩ := trodVars_none hV
  obtain ⟨a0, rfl, rfl, rfl, _⟩ := open_int Try.underlying2 (hval 0 2 v0 rfl rfl) t0
  obtain ⟨a1, h1⟩ := open_in (hval 1 24 v1 rfl rfl) t1
  clear hA0 hval0
  refine (walk W a0 v1 a1 (fFactorMap a0 a1).1 (fFactorMap a0 a1).2.1 (fFactorMap a0 a1).2.2 h1 (fun u v1 k1 => spec_FactorMap u a0 v1 a1 k1) (fun u v1 k1 => impl_FactorMap u a0 v1 a1 k1)).mono fun e W' ⟨he, hg⟩ => ?_
  subst he
  exact ⟨_, rfl, law_post rfl (by kernel_rfl) hW' (by kernel_rfl) rfl rfl rfl hg⟩

theorem over : Rows.fnExactFactorMapRow.holds Try.pinned (OpenSpec.ofChange Rows.fnExactFactorMapSpec) :=
  OpenClaim.holds_of_wide 12 Try.f12 rfl rfl rfl rfl rfl rfl rfl ⟨rfl, rfl, rfl, rfl, rfl⟩ rfl rfl rfl rfl rfl (by kernel_rfl) Try.func12 (by kernel_rfl)
    (of_decide_eq_true (by kernel_rfl)) (by unfold Func.isWrapper; first | (rw [if_pos (by decide +kernel)]; kernel_rfl) | (rw [if_neg (by decide +kernel)]; exact ⟨rfl, rfl⟩))
    (fun os started H enc _ => lifted os started H enc)

theorem proved : Rows.FnExactFactorMapSaid := over
end Go.Proofs.Ytonlkijeogdpmaa.exactFactorMap
