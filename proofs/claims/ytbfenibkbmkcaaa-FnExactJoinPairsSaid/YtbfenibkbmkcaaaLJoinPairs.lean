
/- The exact law of JoinPairs: its model and its program do the same, in memory of their own. Written by wip/tools/gen_law.py. -/
import Derived.Test.YtbfenibkbmkcaaaBase
import Derived.Test.YtbfenibkbmkcaaaRows2
import Derived.Test.YtbfenibkbmkcaaaPairs
set_option linter.unusedSimpArgs false
set_option linter.unusedVariables false
set_option linter.unusedSectionVars false
namespace Go.Proofs.Ytbfenibkbmkcaaa.exactJoinPairs
open Go.ChangeShapes Go.WideShapes Go.ChangeAt Go.RowKit
set_option maxHeartbeats 1000000 in
set_option maxRecDepth 100000 in
theorem main (w : World) (a0 : Int) (v1 : Value) (a1 : List (List Int)) (r0 : List Int) (r1 : Int) (h1 : In2 w v1 a1) (l1 : a1.length + offR a1 a1.length ≤ 1048576) (hspec : (∀ (w : World) (v1 : Value), Rd2 w v1 a1 → Calls Try.prog 26 #[(.int .i64 a0), v1] w (RetLI w r0 r1))) (himpl : (∀ (w : World) (v1 : Value), Rd2 w v1 a1 → Calls Try.prog 28 #[(.int .i64 a0), v1] w (RetLI w r0 r1))) :
    Calls Try.prog 6 #[(.int .i64 a0), v1] w (RetB w true) := by
  have HS := Lib.hid hspec; clear hspec
  have HI := Lib.hid himpl; clear himpl
  have R1 := h1.rd l1
  have I1 := h1
  obtain ⟨b1, cap1, rfl, _⟩ := h1
  have hb : Below w.heap.size w w := Below.refl _ _
  go_enter Try.func6, Try.ntmps6
  go_wp2_with fail
  refine (sz2_any _ _ a1 1048576 I1 (by decide) (by decide)).mono ?_
  rw [if_pos (by omega)]
  rintro e1 u1 ⟨rfl, hn1⟩
  have z1 := hn1.size
  replace hb := hb.trans (hn1.mono hb.size)
  clear hn1
  go_wp2_with fail
  refine (to2_any _ _ a1 (rd2_below hb R1)).mono ?_
  rintro e2 u2 ⟨yt1, rfl, St1, hn2⟩
  have z2 := hn2.size
  replace St1 := sl2h_of St1
  replace hb := hb.trans (hn2.mono hb.size)
  clear hn2
  go_wp2_with fail
  refine (HS.out _ _ (St1.rd)).mono ?_
  rintro e3 u3 ⟨yw0, rfl, Sw0, hn3⟩
  have z3 := hn3.size
  replace St1 := sl2h_below hn3 St1
  replace Sw0 := slh_of Sw0
  replace hb := hb.trans (hn3.mono hb.size)
  clear hn3
  clear St1
  go_wp2_with fail
  refine (to2_any _ _ a1 (rd2_below hb R1)).mono ?_
  rintro e4 u4 ⟨yx1, rfl, Sx1, hn4⟩
  have z4 := hn4.size
  replace Sw0 := slh_below hn4 Sw0
  replace Sx1 := sl2h_of Sx1
  replace hb := hb.trans (hn4.mono hb.size)
  clear hn4
  go_wp2_with fail
  refine (HI.out _ _ (Sx1.rd)).mono ?_
  rintro e5 u5 ⟨yg0, rfl, Sg0, hn5⟩
  have z5 := hn5.size
  replace Sw0 := slh_below hn5 Sw0
  replace Sx1 := sl2h_below hn5 Sx1
  replace Sg0 := slh_of Sg0
  replace hb := hb.trans (hn5.mono hb.size)
  clear hn5
  go_wp2_with fail
  refine (eq_refl_any _ _ _ r0 (Sg0.rd) (Sw0.rd)).mono ?_
  rintro e6 u6 ⟨rfl, hn6⟩
  have z6 := hn6.size
  replace Sw0 := slh_below hn6 Sw0
  replace Sx1 := sl2h_below hn6 Sx1
  replace Sg0 := slh_below hn6 Sg0
  replace hb := hb.trans (hn6.mono hb.size)
  clear hn6
  go_wp2_with fail
  refine (to2_any _ _ a1 (rd2_below hb R1)).mono ?_
  rintro e7 u7 ⟨yc1, rfl, Sc1, hn7⟩
  have z7 := hn7.size
  replace Sw0 := slh_below hn7 Sw0
  replace Sx1 := sl2h_below hn7 Sx1
  replace Sg0 := slh_below hn7 Sg0
  replace Sc1 := sl2h_of Sc1
  replace hb := hb.trans (hn7.mono hb.size)
  clear hn7
  go_wp2_with fail
  refine (eq2_refl_any _ _ _ a1 (Sx1.rd) (Sc1.rd)).mono ?_
  rintro e8 u8 ⟨rfl, hn8⟩
  have z8 := hn8.size
  replace Sw0 := slh_below hn8 Sw0
  replace Sx1 := sl2h_below hn8 Sx1
  replace Sg0 := slh_below hn8 Sg0
  replace Sc1 := sl2h_below hn8 Sc1
  replace hb := hb.trans (hn8.mono hb.size)
  clear hn8
  clear Sc1
  go_wp2_with fail
  refine (mark2_any _ _ _ _ a1 (1) Sx1 (by omega) (by have := Sw0.1.2; have := Sg0.1.2; omega)).mono ?_
  rintro e9 u9 ⟨rfl, Nx1, f9⟩
  have z9 := f9.size
  replace Sw0 := slh_fr f9 Sw0 (by omega)
  replace Sg0 := slh_fr f9 Sg0 (by omega)
  replace hb := below_fr hb f9 (Nat.le_refl _) (by omega)
  clear f9 Sx1
  have Sx1 := Nx1
  clear Nx1
  go_wp2_with fail
  refine (eq_refl_any _ _ _ r0 (Sg0.rd) (Sw0.rd)).mono ?_
  rintro e10 u10 ⟨rfl, hn10⟩
  have z10 := hn10.size
  replace Sw0 := slh_below hn10 Sw0
  replace Sx1 := sl2h_below hn10 Sx1
  replace Sg0 := slh_below hn10 Sg0
  replace hb := hb.trans (hn10.mono hb.size)
  clear hn10
  clear Sx1
  go_wp2_with fail
  refine (markh_any _ _ _ _ r0 (1) Sg0 (by omega) (by have := Sw0.1.2; have := Sg0.1.2; omega)).mono ?_
  rintro e11 u11 ⟨rfl, Ng0, f11⟩
  have z11 := f11.size
  replace Sw0 := slh_fr f11 Sw0 (by omega)
  replace hb := below_fr hb f11 (Nat.le_refl _) (by omega)
  clear f11 Sg0
  have Sg0 := Ng0
  clear Ng0
  go_wp2_with fail
  refine (held_any _ _ r0.length (1) (Sg0.rd) (by omega) (by have := Sg0.1.2; rw [upTo_length] at this; omega)).mono ?_
  rintro e12 u12 ⟨rfl, hn12⟩
  have z12 := hn12.size
  replace Sw0 := slh_below hn12 Sw0
  replace Sg0 := slh_below hn12 Sg0
  replace hb := hb.trans (hn12.mono hb.size)
  clear hn12
  go_wp2_with fail
  refine (to2_any _ _ a1 (rd2_below hb R1)).mono ?_
  rintro e13 u13 ⟨yz1, rfl, Sz1, hn13⟩
  have z13 := hn13.size
  replace Sw0 := slh_below hn13 Sw0
  replace Sg0 := slh_below hn13 Sg0
  replace Sz1 := sl2h_of Sz1
  replace hb := hb.trans (hn13.mono hb.size)
  clear hn13
  go_wp2_with fail
  refine (HI.out _ _ (Sz1.rd)).mono ?_
  rintro e14 u14 ⟨yh0, rfl, Sh0, hn14⟩
  have z14 := hn14.size
  replace Sw0 := slh_below hn14 Sw0
  replace Sg0 := slh_below hn14 Sg0
  replace Sz1 := sl2h_below hn14 Sz1
  replace Sh0 := slh_of Sh0
  replace hb := hb.trans (hn14.mono hb.size)
  clear hn14
  clear Sz1
  go_wp2_with fail
  refine (eq_refl_any _ _ _ r0 (Sh0.rd) (Sw0.rd)).mono ?_
  rintro e15 u15 ⟨rfl, hn15⟩
  have z15 := hn15.size
  replace Sw0 := slh_below hn15 Sw0
  replace Sg0 := slh_below hn15 Sg0
  replace Sh0 := slh_below hn15 Sh0
  replace hb := hb.trans (hn15.mono hb.size)
  clear hn15
  clear Sh0
  clear Sw0
  go_wp2_with fail
  refine (held_any _ _ r0.length (1) (Sg0.rd) (by omega) (by have := Sg0.1.2; rw [upTo_length] at this; omega)).mono ?_
  rintro e16 u16 ⟨rfl, hn16⟩
  have z16 := hn16.size
  replace Sg0 := slh_below hn16 Sg0
  replace hb := hb.trans (hn16.mono hb.size)
  clear hn16
  go_wp2
  go_ret
  exact ⟨rfl, hb⟩

set_option maxRecDepth 100000 in
theorem walk (w : World) (a0 : Int) (v1 : Value) (a1 : List (List Int)) (r0 : List Int) (r1 : Int) (h1 : In2 w v1 a1) (hspec : (∀ (w : World) (v1 : Value), Rd2 w v1 a1 → Calls Try.prog 26 #[(.int .i64 a0), v1] w (RetLI w r0 r1))) (himpl : (∀ (w : World) (v1 : Value), Rd2 w v1 a1 → Calls Try.prog 28 #[(.int .i64 a0), v1] w (RetLI w r0 r1))) :
    Calls Try.prog 6 #[(.int .i64 a0), v1] w (RetB w true) := by
  by_cases l1 : a1.length + offR a1 a1.length ≤ 1048576
  · skip
    exact main w a0 v1 a1 r0 r1 h1 l1 hspec himpl
  · clear hspec himpl
    have I1 := h1
    obtain ⟨b1, cap1, rfl, m1, _⟩ := h1
    unfold maxLen at m1
    go_enter Try.func6, Try.ntmps6
    go_wp2_with fail
    refine (sz2_any _ _ a1 1048576 I1 (by decide) (by decide)).mono ?_
    rw [if_neg (by omega)]
    rintro e1 u1 ⟨rfl, hn1⟩
    go_wp2
    go_ret
    exact ⟨rfl, hn1⟩

set_option maxRecDepth 100000 in
theorem lifted (os : Os) (started : os.Started) (H : Type) (enc : TypeId × Value → H) :
    ReturnsInHanded {} Try.checked os 6 .any (Rows.fnExactJoinPairsSpec.pre6 enc Try.prog Try.f6 Rows.fnExactJoinPairsRow.domain false) (Rows.fnExactJoinPairsSpec.post enc Try.prog Try.f6 false true false false) := by
  refine returnsInHanded_of_change (C := Try.checked) own started (by kernel_rfl) Try.func6
    (ChangeSpec.witness6 (enc := enc) (C := Try.checked) false ⟨#[], #[.int .i64 0, .slice none 0 0], []⟩ 8 (by kernel_rfl) (by kernel_rfl) (by kernel_rfl) (by kernel_rfl)) ?_
  intro W base args ds gs before hval0 hW _ _
  have hval : ∀ (j : Nat) t v, Try.f6.params[j]? = some t → args[j]? = some v → Value.okWide Try.prog W .any base t v := hval0
  have hW' := hW
  obtain ⟨p, q, hA0, hV, rfl, _, _⟩ := hW
  have hA : DataW.TrodAll enc Try.prog W 0 (fun _ => true) true Try.f6.params.toList args.toList ds p := hA0
  rw [Try.params6] at hA hval
  obtain ⟨v0, vs0, d0, ds0, p0, q0, hargs, rfl, rfl, t0, s0⟩ := trodAll_cons hA
  obtain ⟨v1, vs1, d1, ds1, p1, q1, rfl, rfl, rfl, t1, s1⟩ := trodAll_cons s0
  obtain ⟨rfl, rfl, rfl⟩ := trodAll_nil s1
  obtain rfl : args = #[v0, v1] := by cases args; simp_all
  obtain ⟨rfl, rfl⟩ := trodVars_none hV
  obtain ⟨a0, rfl, rfl, rfl, _⟩ := open_int Try.underlying2 (hval 0 2 v0 rfl rfl) t0
  obtain ⟨a1, h1⟩ := open_in2 (hval 1 32 v1 rfl rfl) t1
  clear hA0 hval0
  refine (walk W a0 v1 a1 (fJoinPairs a0 a1).1 (fJoinPairs a0 a1).2 h1 (fun u v1 k1 => spec_JoinPairs u a0 v1 a1 k1) (fun u v1 k1 => impl_JoinPairs u a0 v1 a1 k1)).mono fun e W' ⟨he, hg⟩ => ?_
  subst he
  exact ⟨_, rfl, law_post rfl (by kernel_rfl) hW' (by kernel_rfl) rfl rfl rfl hg⟩

theorem over : Rows.fnExactJoinPairsRow.holds Try.pinned (OpenSpec.ofChange Rows.fnExactJoinPairsSpec) :=
  OpenClaim.holds_of_wide 6 Try.f6 rfl rfl rfl rfl rfl rfl rfl ⟨rfl, rfl, rfl, rfl, rfl⟩ rfl rfl rfl rfl rfl (by kernel_rfl) Try.func6 (by kernel_rfl)
    (of_decide_eq_true (by kernel_rfl)) (by unfold Func.isWrapper; first | (rw [if_pos (by decide +kernel)]; kernel_rfl) | (rw [if_neg (by decide +kernel)]; exact ⟨rfl, rfl⟩))
    (fun os started H enc _ => lifted os started H enc)

theorem proved : Rows.FnExactJoinPairsSaid := over
end Go.Proofs.Ytbfenibkbmkcaaa.exactJoinPairs
