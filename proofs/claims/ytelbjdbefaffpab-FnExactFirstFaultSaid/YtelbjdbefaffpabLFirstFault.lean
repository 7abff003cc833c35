
/- The exact law of FirstFault: its model and its program do the same, in memory of their own. Written by wip/tools/gen_law3.py. -/
import Derived.Test.YtelbjdbefaffpabBase
import Derived.Test.YtelbjdbefaffpabLawC
import Derived.Test.YtelbjdbefaffpabFirst
set_option linter.unusedSimpArgs false
set_option linter.unusedVariables false
set_option linter.unusedSectionVars false
namespace Go.Proofs.Ytelbjdbefaffpab.exactFirstFault
open Go.ChangeShapes Go.WideShapes Go.ChangeAt Go.RowKit
set_option maxHeartbeats 4000000 in
set_option maxRecDepth 100000 in
theorem main (w : World) (v0 : Value) (a0 : Cat) (r0 : Int) (r1 : Int) (r2 : Int) (r3 : Int) (r4 : Int) (h0 : InC w v0 a0) (l0 : szM a0 ≤ 1048576) (hspec : (∀ (w : World) (v0 : Value), RdC w v0 a0 → Calls Try.prog 19 #[v0] w (RetIIIII w r0 r1 r2 r3 r4))) (himpl : (∀ (w : World) (v0 : Value), RdC w v0 a0 → Calls Try.prog 20 #[v0] w (RetIIIII w r0 r1 r2 r3 r4))) :
    Calls Try.prog 4 #[v0] w (RetB w true) := by
  have HS := Lib.hid hspec; clear hspec
  have HI := Lib.hid himpl; clear himpl
  have mz0 := mz_le a0
  have R0 := h0.rd (by omega)
  have I0 := Lib.hid h0
  have F0 := h0.form; clear h0
  obtain ⟨bap0, bbp0, bcp0, bdp0, cap0, cbp0, ccp0, cdp0, rfl⟩ := F0
  go_enter Try.func4, Try.ntmps4
  go_wp2_with fail
  generalize hA0 : World.alloc _ _ = A0
  have Xp0 : Bx A0 (w.heap.size) 25 [.int .i64 a0.ob, .slice bap0 a0.s.length cap0, .slice bbp0 a0.t.length cbp0, .slice bcp0 a0.e.length ccp0, .slice bdp0 a0.m.length cdp0] := by rw [← hA0]; exact bx_new _ _ _
  replace Xp0 := Lib.hid Xp0
  have hb : Below w.heap.size w A0 := by rw [← hA0]; exact (Below.refl _ _).alloc (Nat.le_refl _) _
  have zA0 : A0.heap.size = w.heap.size + 1 := by rw [← hA0]; simp
  clear hA0
  refine (szC_any _ _ a0 (1048576) (inC_below hb I0.out) (by omega) (by omega)).mono ?_
  rw [if_pos (by omega)]
  rintro e1 u1 ⟨rfl, hn1⟩
  have z1 := hn1.size
  replace Xp0 := Lib.hid (bx_below hn1 Xp0.out)
  replace hb := hb.trans (hn1.mono hb.size)
  clear hn1
  have qp0 := bx5 Xp0.out
  go_wp2_with fail
  clear qp0
  refine (toC_any _ _ a0 (rdC_below hb R0)).mono ?_
  rintro e2 u2 ⟨yt0, rfl, St0, hn2⟩
  have z2 := hn2.size
  replace Xp0 := Lib.hid (bx_below hn2 Xp0.out)
  replace St0 := (ownC_loc _ _).span St0
  replace hb := hb.trans (hn2.mono hb.size)
  clear hn2
  obtain ⟨bat0, bbt0, bct0, bdt0, cat0, cbt0, cct0, cdt0, rfl⟩ := RdC.form St0.rd
  go_wp2_with fail
  refine (HS.out _ _ (St0.rd)).mono ?_
  rintro e3 u3 ⟨rfl, hn3⟩
  have z3 := hn3.size
  replace Xp0 := Lib.hid (bx_below hn3 Xp0.out)
  replace St0 := (ownC_loc _ _).below hn3 St0
  replace hb := hb.trans (hn3.mono hb.size)
  clear hn3
  clear St0
  have qp0 := bx5 Xp0.out
  go_wp2_with fail
  clear qp0
  refine (toC_any _ _ a0 (rdC_below hb R0)).mono ?_
  rintro e4 u4 ⟨yx0, rfl, Sx0, hn4⟩
  have z4 := hn4.size
  replace Xp0 := Lib.hid (bx_below hn4 Xp0.out)
  replace Sx0 := (ownC_loc _ _).span Sx0
  replace hb := hb.trans (hn4.mono hb.size)
  clear hn4
  obtain ⟨bax0, bbx0, bcx0, bdx0, cax0, cbx0, ccx0, cdx0, rfl⟩ := RdC.form Sx0.rd
  go_wp2_with fail
  generalize hA : World.alloc _ _ = A4
  have Xx0 : Bx A4 u4.heap.size 28 [.int .i64 a0.ob, .slice bax0 a0.s.length cax0, .slice bbx0 a0.t.length cbx0, .slice bcx0 a0.e.length ccx0, .slice bdx0 a0.m.length cdx0] := by rw [← hA]; exact bx_new _ _ _
  replace Xx0 := Lib.hid Xx0
  have hn : Below u4.heap.size u4 A4 := by rw [← hA]; exact (Below.refl _ _).alloc (Nat.le_refl _) _
  have zA4 : A4.heap.size = u4.heap.size + 1 := by rw [← hA]; simp
  clear hA
  replace Xp0 := Lib.hid (bx_below hn Xp0.out)
  replace Sx0 := (ownC_loc _ _).below hn Sx0
  replace hb := hb.trans (hn.mono hb.size)
  clear hn
  refine (HI.out _ _ (Sx0.rd)).mono ?_
  rintro e5 u5 ⟨rfl, hn5⟩
  have z5 := hn5.size
  replace Xp0 := Lib.hid (bx_below hn5 Xp0.out)
  replace Xx0 := Lib.hid (bx_below hn5 Xx0.out)
  replace Sx0 := (ownC_loc _ _).below hn5 Sx0
  replace hb := hb.trans (hn5.mono hb.size)
  clear hn5
  have q1 := bx5 Xx0.out
  have q2 := bx5 Xp0.out
  go_wp2_with fail
  go_region_held3 (fun w' => (w'.cell? ⟨u4.heap.size, 0, none⟩ = some (.int .i64 a0.ob) ∧ w'.cell? ⟨u4.heap.size, 1, none⟩ = some (.slice bax0 a0.s.length cax0) ∧ w'.cell? ⟨u4.heap.size, 2, none⟩ = some (.slice bbx0 a0.t.length cbx0) ∧ w'.cell? ⟨u4.heap.size, 3, none⟩ = some (.slice bcx0 a0.e.length ccx0) ∧ w'.cell? ⟨u4.heap.size, 4, none⟩ = some (.slice bdx0 a0.m.length cdx0)) ∧ w'.cell? ⟨w.heap.size, 0, none⟩ = some (.int .i64 a0.ob) ∧ w'.cell? ⟨w.heap.size, 1, none⟩ = some (.slice bap0 a0.s.length cap0) ∧ w'.cell? ⟨w.heap.size, 2, none⟩ = some (.slice bbp0 a0.t.length cbp0) ∧ w'.cell? ⟨w.heap.size, 3, none⟩ = some (.slice bcp0 a0.e.length ccp0) ∧ w'.cell? ⟨w.heap.size, 4, none⟩ = some (.slice bdp0 a0.m.length cdp0))
    (first | exact ⟨q1, q2⟩ | exact ⟨bx5 (bx_below hn6 Xx0.out), bx5 (bx_below hn6 Xp0.out)⟩ | exact ⟨bx5 (bx_below hn7 (bx_below hn6 Xx0.out)), bx5 (bx_below hn7 (bx_below hn6 Xp0.out))⟩ | go_keep)
    (first
      | (go_at_call 16; refine (toC_any _ _ a0 (rdC_below (by first | exact hb | exact hb.drew | exact hb.drew.drew) R0)).mono ?_; rintro e6 u6 ⟨yc0, rfl, Sc0, hn6⟩; obtain ⟨bac0, bbc0, bcc0, bdc0, cac0, cbc0, ccc0, cdc0, rfl⟩ := RdC.form Sc0.rd; have hs0 := Lib.hid Sc0.rd; have hm6 : Below u5.heap.size u5 u6 := ⟨hn6.os, hn6.tape, hn6.output, hn6.size, hn6.block⟩)
      | (go_at_call 18; refine (eqC_refl_any _ _ _ a0 (rdC_below (w' := _) (by first | exact hm6 | exact hm6.drew) (Sx0.rd : RdC _ _ _)) (by first | exact hs0.out | exact rdC_drew hs0.out)).mono ?_; rintro e7 u7 ⟨rfl, hn7⟩))
  clear q1 q2 Sc0 hs0 hm6
  replace hn6 : Below u5.heap.size u5 u6 := ⟨hn6.os, hn6.tape, hn6.output, hn6.size, hn6.block⟩
  have z6 := hn6.size
  replace Xp0 := Lib.hid (bx_below hn6 Xp0.out)
  replace Xx0 := Lib.hid (bx_below hn6 Xx0.out)
  replace Sx0 := (ownC_loc _ _).below hn6 Sx0
  replace hb := hb.trans (hn6.mono hb.size)
  clear hn6
  replace hn7 : Below u6.heap.size u6 u7 := ⟨hn7.os, hn7.tape, hn7.output, hn7.size, hn7.block⟩
  have z7 := hn7.size
  replace Xp0 := Lib.hid (bx_below hn7 Xp0.out)
  replace Xx0 := Lib.hid (bx_below hn7 Xx0.out)
  replace Sx0 := (ownC_loc _ _).below hn7 Sx0
  replace hb := hb.trans (hn7.mono hb.size)
  clear hn7
  go_wp2
  go_ret
  exact ⟨rfl, hb⟩

set_option maxHeartbeats 1000000 in
set_option maxRecDepth 100000 in
theorem walk (w : World) (v0 : Value) (a0 : Cat) (r0 : Int) (r1 : Int) (r2 : Int) (r3 : Int) (r4 : Int) (h0 : InC w v0 a0) (hspec : (∀ (w : World) (v0 : Value), RdC w v0 a0 → Calls Try.prog 19 #[v0] w (RetIIIII w r0 r1 r2 r3 r4))) (himpl : (∀ (w : World) (v0 : Value), RdC w v0 a0 → Calls Try.prog 20 #[v0] w (RetIIIII w r0 r1 r2 r3 r4))) :
    Calls Try.prog 4 #[v0] w (RetB w true) := by
  by_cases l0 : szM a0 ≤ 1048576
  · skip
    exact main w v0 a0 r0 r1 r2 r3 r4 h0 l0 hspec himpl
  · clear hspec himpl
    have I0 := Lib.hid h0
    have F0 := h0.form; clear h0
    obtain ⟨bap0, bbp0, bcp0, bdp0, cap0, cbp0, ccp0, cdp0, rfl⟩ := F0
    go_enter Try.func4, Try.ntmps4
    go_wp2_with fail
    generalize hA0 : World.alloc _ _ = A0
    have Xp0 : Bx A0 (w.heap.size) 25 [.int .i64 a0.ob, .slice bap0 a0.s.length cap0, .slice bbp0 a0.t.length cbp0, .slice bcp0 a0.e.length ccp0, .slice bdp0 a0.m.length cdp0] := by rw [← hA0]; exact bx_new _ _ _
    replace Xp0 := Lib.hid Xp0
    have hb : Below w.heap.size w A0 := by rw [← hA0]; exact (Below.refl _ _).alloc (Nat.le_refl _) _
    have zA0 : A0.heap.size = w.heap.size + 1 := by rw [← hA0]; simp
    clear hA0
    refine (szC_any _ _ a0 (1048576) (inC_below hb I0.out) (by omega) (by omega)).mono ?_
    rw [if_neg (by omega)]
    rintro e1 u1 ⟨rfl, hn1⟩
    replace Xp0 := Lib.hid (bx_below hn1 Xp0.out)
    replace hb := hb.trans (hn1.mono hb.size)
    go_wp2
    go_ret
    exact ⟨rfl, hb⟩

set_option maxRecDepth 100000 in
theorem lifted (os : Os) (started : os.Started) (H : Type) (enc : TypeId × Value → H) :
    ReturnsInHanded {} Try.checked os 4 .any (Rows.fnExactFirstFaultSpec.pre6 enc Try.prog Try.f4 Rows.fnExactFirstFaultRow.domain false) (Rows.fnExactFirstFaultSpec.post enc Try.prog Try.f4 false true false false) := by
  refine returnsInHanded_of_change (C := Try.checked) own started (by kernel_rfl) Try.func4
    (ChangeSpec.witness6 (enc := enc) (C := Try.checked) false ⟨#[], #[.agg #[.int .i64 0, .slice none 0 0, .slice none 0 0, .slice none 0 0, .slice none 0 0]], []⟩ 8 (by kernel_rfl) (by kernel_rfl) (by kernel_rfl) (by kernel_rfl)) ?_
  intro W base args ds gs before hval0 hW _ _
  have hval : ∀ (j : Nat) t v, Try.f4.params[j]? = some t → args[j]? = some v → Value.okWide Try.prog W .any base t v := hval0
  have hW' := hW
  obtain ⟨p, q, hA0, hV, rfl, _, _⟩ := hW
  have hA : DataW.TrodAll enc Try.prog W 0 (fun _ => true) true Try.f4.params.toList args.toList ds p := hA0
  rw [Try.params4] at hA hval
  obtain ⟨v0, vs0, d0, ds0, p0, q0, hargs, rfl, rfl, t0, s0⟩ := trodAll_cons hA
  obtain ⟨rfl, rfl, rfl⟩ := trodAll_nil s0
  obtain rfl : args = #[v0] := by cases args; simp_all
  obtain ⟨rfl, rfl⟩ := trodVars_none hV
  obtain ⟨a0, h0⟩ := open_inC (hval 0 25 v0 rfl rfl) t0
  clear hA0 hval0
  refine (walk W v0 a0 (fFirstFault a0).1 (fFirstFault a0).2.1 (fFirstFault a0).2.2.1 (fFirstFault a0).2.2.2.1 (fFirstFault a0).2.2.2.2 h0 (fun u v0 k0 => spec_FirstFault u v0 a0 k0) (fun u v0 k0 => impl_FirstFault u v0 a0 k0)).mono fun e W' ⟨he, hg⟩ => ?_
  subst he
  exact ⟨_, rfl, law_post rfl (by kernel_rfl) hW' (by kernel_rfl) rfl rfl rfl hg⟩

theorem over : Rows.fnExactFirstFaultRow.holds Try.pinned (OpenSpec.ofChange Rows.fnExactFirstFaultSpec) :=
  OpenClaim.holds_of_wide 4 Try.f4 rfl rfl rfl rfl rfl rfl rfl ⟨rfl, rfl, rfl, rfl, rfl⟩ rfl rfl rfl rfl rfl (by kernel_rfl) Try.func4 (by kernel_rfl)
    (of_decide_eq_true (by kernel_rfl)) (by unfold Func.isWrapper; first | (rw [if_pos (by decide +kernel)]; kernel_rfl) | (rw [if_neg (by decide +kernel)]; exact ⟨rfl, rfl⟩))
    (fun os started H enc _ => lifted os started H enc)

theorem proved : Rows.FnExactFirstFaultSaid := over
end Go.Proofs.Ytelbjdbefaffpab.exactFirstFault
