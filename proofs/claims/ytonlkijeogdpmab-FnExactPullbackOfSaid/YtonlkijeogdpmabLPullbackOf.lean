/- The exact law of PullbackOf: its model and its program do the same, in memory of their own. Written by wip/tools/gen_law.py. -/
import Derived.Test.YtonlkijeogdpmabEq
import Derived.Test.YtonlkijeogdpmabLaw
import Derived.Test.YtonlkijeogdpmabRows3
import Derived.Test.YtonlkijeogdpmabPull
namespace Go.Proofs.Ytonlkijeogdpmab.exactPullbackOf
open Go.ChangeShapes Go.WideShapes Go.ChangeAt Go.RowKit
set_option maxHeartbeats 1000000 in
set_option maxRecDepth 100000 in
theorem main (w : World) (a0 : Int) (v1 : Value) (a1 : List Int) (v2 : Value) (a2 : List Int) (r0 : List (List Int)) (r1 : Int) (h1 : In w v1 a1) (l1 : a1.length ≤ 1048576) (h2 : In w v2 a2) (l2 : a2.length ≤ 1048576) (hr0 : offR r0 r0.length ≤ 1152921504606846) (hspec : (∀ (w : World) (v1 : Value) (v2 : Value), Rd w v1 a1 → Rd w v2 a2 → Calls Try.prog 30 #[(.int .i64 a0), v1, v2] w (RetRI w r0 r1))) (himpl : (∀ (w : World) (v1 : Value) (v2 : Value), Rd w v1 a1 → Rd w v2 a2 → Calls Try.prog 31 #[(.int .i64 a0), v1, v2] w (RetRI w r0 r1))) :
    Calls Try.prog 8 #[(.int .i64 a0), v1, v2] w (RetB w true) := by
  have HS := Lib.hid hspec; clear hspec
  have HI := Lib.hid himpl; clear himpl
  have R1 := h1.rd l1
  obtain ⟨b1, cap1, rfl, _⟩ := h1
  have R2 := h2.rd l2
  obtain ⟨b2, cap2, rfl, _⟩ := h2
  have hb : Below w.heap.size w w := Below.refl _ _
  go_enter Try.func8, Try.ntmps8
  go_wp2_with fail
  refine (to_any _ _ a1 (rd_below hb R1)).mono ?_
  rintro e1 u1 ⟨yt1, rfl, St1, hn1⟩
  have z1 := hn1.size
  replace St1 := slh_of St1
  replace hb := hb.trans (hn1.mono hb.size)
  clear hn1
  go_wp2_with fail
  refine (to_any _ _ a2 (rd_below hb R2)).mono ?_
  rintro e2 u2 ⟨yt2, rfl, St2, hn2⟩
  have z2 := hn2.size
  replace St1 := slh_below hn2 St1
  replace St2 := slh_of St2
  replace hb := hb.trans (hn2.mono hb.size)
  clear hn2
  go_wp2_with fail
  refine (HS.out _ _ _ (St1.rd) (St2.rd)).mono ?_
  rintro e3 u3 ⟨yw0, rfl, Sw0, hn3⟩
  have z3 := hn3.size
  replace St1 := slh_below hn3 St1
  replace St2 := slh_below hn3 St2
  replace Sw0 := sl2h_of Sw0
  replace hb := hb.trans (hn3.mono hb.size)
  clear hn3
  clear St1
  clear St2
  go_wp2_with fail
  refine (to_any _ _ a1 (rd_below hb R1)).mono ?_
  rintro e4 u4 ⟨yx1, rfl, Sx1, hn4⟩
  have z4 := hn4.size
  replace Sw0 := sl2h_below hn4 Sw0
  replace Sx1 := slh_of Sx1
  replace hb := hb.trans (hn4.mono hb.size)
  clear hn4
  go_wp2_with fail
  refine (to_any _ _ a2 (rd_below hb R2)).mono ?_
  rintro e5 u5 ⟨yx2, rfl, Sx2, hn5⟩
  have z5 := hn5.size
  replace Sw0 := sl2h_below hn5 Sw0
  replace Sx1 := slh_below hn5 Sx1
  replace Sx2 := slh_of Sx2
  replace hb := hb.trans (hn5.mono hb.size)
  clear hn5
  go_wp2_with fail
  refine (HI.out _ _ _ (Sx1.rd) (Sx2.rd)).mono ?_
  rintro e6 u6 ⟨yg0, rfl, Sg0, hn6⟩
  have z6 := hn6.size
  replace Sw0 := sl2h_below hn6 Sw0
  replace Sx1 := slh_below hn6 Sx1
  replace Sx2 := slh_below hn6 Sx2
  replace Sg0 := sl2h_of Sg0
  replace hb := hb.trans (hn6.mono hb.size)
  clear hn6
  go_wp2_with fail
  refine (eq2_refl_any _ _ _ r0 (Sg0.rd) (Sw0.rd)).mono ?_
  rintro e7 u7 ⟨rfl, hn7⟩
  have z7 := hn7.size
  replace Sw0 := sl2h_below hn7 Sw0
  replace Sx1 := slh_below hn7 Sx1
  replace Sx2 := slh_below hn7 Sx2
  replace Sg0 := sl2h_below hn7 Sg0
  replace hb := hb.trans (hn7.mono hb.size)
  clear hn7
  go_wp2_with fail
  refine (to_any _ _ a1 (rd_below hb R1)).mono ?_
  rintro e8 u8 ⟨yc1, rfl, Sc1, hn8⟩
  have z8 := hn8.size
  replace Sw0 := sl2h_below hn8 Sw0
  replace Sx1 := slh_below hn8 Sx1
  replace Sx2 := slh_below hn8 Sx2
  replace Sg0 := sl2h_below hn8 Sg0
  replace Sc1 := slh_of Sc1
  replace hb := hb.trans (hn8.mono hb.size)
  clear hn8
  go_wp2_with fail
  refine (eq_refl_any _ _ _ a1 (Sx1.rd) (Sc1.rd)).mono ?_
  rintro e9 u9 ⟨rfl, hn9⟩
  have z9 := hn9.size
  replace Sw0 := sl2h_below hn9 Sw0
  replace Sx1 := slh_below hn9 Sx1
  replace Sx2 := slh_below hn9 Sx2
  replace Sg0 := sl2h_below hn9 Sg0
  replace Sc1 := slh_below hn9 Sc1
  replace hb := hb.trans (hn9.mono hb.size)
  clear hn9
  clear Sc1
  go_wp2_with fail
  refine (to_any _ _ a2 (rd_below hb R2)).mono ?_
  rintro e10 u10 ⟨yc2, rfl, Sc2, hn10⟩
  have z10 := hn10.size
  replace Sw0 := sl2h_below hn10 Sw0
  replace Sx1 := slh_below hn10 Sx1
  replace Sx2 := slh_below hn10 Sx2
  replace Sg0 := sl2h_below hn10 Sg0
  replace Sc2 := slh_of Sc2
  replace hb := hb.trans (hn10.mono hb.size)
  clear hn10
  go_wp2_with fail
  refine (eq_refl_any _ _ _ a2 (Sx2.rd) (Sc2.rd)).mono ?_
  rintro e11 u11 ⟨rfl, hn11⟩
  have z11 := hn11.size
  replace Sw0 := sl2h_below hn11 Sw0
  replace Sx1 := slh_below hn11 Sx1
  replace Sx2 := slh_below hn11 Sx2
  replace Sg0 := sl2h_below hn11 Sg0
  replace Sc2 := slh_below hn11 Sc2
  replace hb := hb.trans (hn11.mono hb.size)
  clear hn11
  clear Sc2
  go_wp2_with fail
  refine (markh_any _ _ _ _ a1 (1) Sx1 (by omega) (by have := Sx1.1.2; have := Sx2.1.2; omega)).mono ?_
  rintro e12 u12 ⟨rfl, Nx1, f12⟩
  have z12 := f12.size
  replace Sw0 := sl2h_fr f12 Sw0 (by omega)
  replace Sx2 := slh_fr f12 Sx2 (by omega)
  replace Sg0 := sl2h_fr f12 Sg0 (by omega)
  replace hb := below_fr hb f12 (Nat.le_refl _) (by omega)
  clear f12 Sx1
  have Sx1 := Nx1
  clear Nx1
  go_wp2_with fail
  refine (markh_any _ _ _ _ a2 (1 + (a1.length : Int)) Sx2 (by omega) (by have := Sx1.1.2; have := Sx2.1.2; omega)).mono ?_
  rintro e13 u13 ⟨rfl, Nx2, f13⟩
  have z13 := f13.size
  replace Sw0 := sl2h_fr f13 Sw0 (by omega)
  replace Sx1 := slh_fr f13 Sx1 (by omega)
  replace Sg0 := sl2h_fr f13 Sg0 (by omega)
  replace hb := below_fr hb f13 (Nat.le_refl _) (by omega)
  clear f13 Sx2
  have Sx2 := Nx2
  clear Nx2
  go_wp2_with fail
  refine (eq2_refl_any _ _ _ r0 (Sg0.rd) (Sw0.rd)).mono ?_
  rintro e14 u14 ⟨rfl, hn14⟩
  have z14 := hn14.size
  replace Sw0 := sl2h_below hn14 Sw0
  replace Sx1 := slh_below hn14 Sx1
  replace Sx2 := slh_below hn14 Sx2
  replace Sg0 := sl2h_below hn14 Sg0
  replace hb := hb.trans (hn14.mono hb.size)
  clear hn14
  clear Sx1
  clear Sx2
  go_wp2_with fail
  refine (mark2_any _ _ _ _ r0 (1) Sg0 (by omega) (by omega)).mono ?_
  rintro e15 u15 ⟨rfl, Ng0, f15⟩
  have z15 := f15.size
  replace Sw0 := sl2h_fr f15 Sw0 (by omega)
  replace hb := below_fr hb f15 (Nat.le_refl _) (by omega)
  clear f15 Sg0
  have Sg0 := Ng0
  clear Ng0
  go_wp2_with fail
  refine (held2_any _ _ r0 (1) (Sg0.rd) (by omega) (by omega)).mono ?_
  rintro e16 u16 ⟨rfl, hn16⟩
  have z16 := hn16.size
  replace Sw0 := sl2h_below hn16 Sw0
  replace Sg0 := sl2h_below hn16 Sg0
  replace hb := hb.trans (hn16.mono hb.size)
  clear hn16
  go_wp2_with fail
  refine (to_any _ _ a1 (rd_below hb R1)).mono ?_
  rintro e17 u17 ⟨yz1, rfl, Sz1, hn17⟩
  have z17 := hn17.size
  replace Sw0 := sl2h_below hn17 Sw0
  replace Sg0 := sl2h_below hn17 Sg0
  replace Sz1 := slh_of Sz1
  replace hb := hb.trans (hn17.mono hb.size)
  clear hn17
  go_wp2_with fail
  refine (to_any _ _ a2 (rd_below hb R2)).mono ?_
  rintro e18 u18 ⟨yz2, rfl, Sz2, hn18⟩
  have z18 := hn18.size
  replace Sw0 := sl2h_below hn18 Sw0
  replace Sg0 := sl2h_below hn18 Sg0
  replace Sz1 := slh_below hn18 Sz1
  replace Sz2 := slh_of Sz2
  replace hb := hb.trans (hn18.mono hb.size)
  clear hn18
  go_wp2_with fail
  refine (HI.out _ _ _ (Sz1.rd) (Sz2.rd)).mono ?_
  rintro e19 u19 ⟨yh0, rfl, Sh0, hn19⟩
  have z19 := hn19.size
  replace Sw0 := sl2h_below hn19 Sw0
  replace Sg0 := sl2h_below hn19 Sg0
  replace Sz1 := slh_below hn19 Sz1
  replace Sz2 := slh_below hn19 Sz2
  replace Sh0 := sl2h_of Sh0
  replace hb := hb.trans (hn19.mono hb.size)
  clear hn19
  clear Sz1
  clear Sz2
  go_wp2_with fail
  refine (eq2_refl_any _ _ _ r0 (Sh0.rd) (Sw0.rd)).mono ?_
  rintro e20 u20 ⟨rfl, hn20⟩
  have z20 := hn20.size
  replace Sw0 := sl2h_below hn20 Sw0
  replace Sg0 := sl2h_below hn20 Sg0
  replace Sh0 := sl2h_below hn20 Sh0
  replace hb := hb.trans (hn20.mono hb.size)
  clear hn20
  clear Sh0
  clear Sw0
  go_wp2_with fail
  refine (held2_any _ _ r0 (1) (Sg0.rd) (by omega) (by omega)).mono ?_
  rintro e21 u21 ⟨rfl, hn21⟩
  have z21 := hn21.size
  replace Sg0 := sl2h_below hn21 Sg0
  replace hb := hb.trans (hn21.mono hb.size)
  clear hn21
  go_wp2
  go_ret
  exact ⟨rfl, hb⟩

set_option maxRecDepth 100000 in
theorem walk (w : World) (a0 : Int) (v1 : Value) (a1 : List Int) (v2 : Value) (a2 : List Int) (r0 : List (List Int)) (r1 : Int) (h1 : In w v1 a1) (h2 : In w v2 a2) (hr0 : offR r0 r0.length ≤ 1152921504606846) (hspec : (∀ (w : World) (v1 : Value) (v2 : Value), Rd w v1 a1 → Rd w v2 a2 → Calls Try.prog 30 #[(.int .i64 a0), v1, v2] w (RetRI w r0 r1))) (himpl : (∀ (w : World) (v1 : Value) (v2 : Value), Rd w v1 a1 → Rd w v2 a2 → Calls Try.prog 31 #[(.int .i64 a0), v1, v2] w (RetRI w r0 r1))) :
    Calls Try.prog 8 #[(.int .i64 a0), v1, v2] w (RetB w true) := by
  by_cases l1 : a1.length ≤ 1048576
  · skip
    by_cases l2 : a2.length ≤ 1048576
    · skip
      exact main w a0 v1 a1 v2 a2 r0 r1 h1 l1 h2 l2 hr0 hspec himpl
    · clear hspec himpl
      obtain ⟨b1, cap1, rfl, m1, _⟩ := h1
      unfold maxLen at m1
      obtain ⟨b2, cap2, rfl, m2, _⟩ := h2
      unfold maxLen at m2
      go_enter Try.func8, Try.ntmps8
      go_wp2
      go_ret
      exact ⟨rfl, Below.refl _ _⟩
  · clear hspec himpl
    obtain ⟨b1, cap1, rfl, m1, _⟩ := h1
    unfold maxLen at m1
    obtain ⟨b2, cap2, rfl, m2, _⟩ := h2
    unfold maxLen at m2
    go_enter Try.func8, Try.ntmps8
    go_wp2
    go_ret
    exact ⟨rfl, Below.refl _ _⟩

set_option maxRecDepth 100000 in
theorem lifted (os : Os) (started : os.Started) (H : Type) (enc : TypeId × Value → H) :
    ReturnsInHanded {} Try.checked os 8 .any (Rows.fnExactPullbackOfSpec.pre6 enc Try.prog Try.f8 Rows.fnExactPullbackOfRow.domain false) (Rows.fnExactPullbackOfSpec.post enc Try.prog Try.f8 false true false false) := by
  refine returnsInHanded_of_change (C := Try.checked) own started (by kernel_rfl) Try.func8
    (ChangeSpec.witness6 (enc := enc) (C := Try.checked) false ⟨#[], #[.int .i64 0, .slice none 0 0, .slice none 0 0], []⟩ 8 (by kernel_rfl) (by kernel_rfl) (by kernel_rfl) (by kernel_rfl)) ?_
  intro W base args ds gs before hval0 hW _ _
  have hval : ∀ (j : Nat) t v, Try.f8.params[j]? = some t → args[j]? = some v → Value.okWide Try.prog W .any base t v := hval0
  have hW' := hW
  obtain ⟨p, q, hA0, hV, rfl, _, _⟩ := hW
  have hA : DataW.TrodAll enc Try.prog W 0 (fun _ => true) true Try.f8.params.toList args.toList ds p := hA0
  rw [Try.params8] at hA hval
  obtain ⟨v0, vs0, d0, ds0, p0, q0, hargs, rfl, rfl, t0, s0⟩ := trodAll_cons hA
  obtain ⟨v1, vs1, d1, ds1, p1, q1, rfl, rfl, rfl, t1, s1⟩ := trodAll_cons s0
  obtain ⟨v2, vs2, d2, ds2, p2, q2, rfl, rfl, rfl, t2, s2⟩ := trodAll_cons s1
  obtain ⟨rfl, rfl, rfl⟩ := trodAll_nil s2
  obtain rfl : args = #[v0, v1, v2] := by cases args; simp_all
  obtain ⟨rfl, rfl⟩ := trodVars_none hV
  obtain ⟨a0, rfl, rfl, rfl, _⟩ := open_int Try.underlying2 (hval 0 2 v0 rfl rfl) t0
  obtain ⟨a1, h1⟩ := open_in (hval 1 24 v1 rfl rfl) t1
  obtain ⟨a2, h2⟩ := open_in (hval 2 24 v2 rfl rfl) t2
  clear hA0 hval0
  refine (walk W a0 v1 a1 v2 a2 (fPullbackOf a0 a1 a2).1 (fPullbackOf a0 a1 a2).2 h1 h2 (bound_PullbackOf a0 a1 a2) (fun u v1 v2 k1 k2 => spec_PullbackOf u a0 v1 a1 v2 a2 k1 k2) (fun u v1 v2 k1 k2 => impl_PullbackOf u a0 v1 a1 v2 a2 k1 k2)).mono fun e W' ⟨he, hg⟩ => ?_
  subst he
  exact ⟨_, rfl, law_post rfl (by kernel_rfl) hW' (by kernel_rfl) rfl rfl rfl hg⟩

theorem over : Rows.fnExactPullbackOfRow.holds Try.pinned (OpenSpec.ofChange Rows.fnExactPullbackOfSpec) :=
  OpenClaim.holds_of_wide 8 Try.f8 rfl rfl rfl rfl rfl rfl rfl ⟨rfl, rfl, rfl, rfl, rfl⟩ rfl rfl rfl rfl rfl (by kernel_rfl) Try.func8 (by kernel_rfl)
    (of_decide_eq_true (by kernel_rfl)) (by unfold Func.isWrapper; first | (rw [if_pos (by decide +kernel)]; kernel_rfl) | (rw [if_neg (by decide +kernel)]; exact ⟨rfl, rfl⟩))
    (fun os started H enc _ => lifted os started H enc)

theorem proved : Rows.FnExactPullbackOfSaid := over
end Go.Proofs.Ytonlkijeogdpmab.exactPullbackOf
