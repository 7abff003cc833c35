
/- KernelOf: the program and its model. -/
import Derived.Test.YtfnneogadciimabIdx
import Derived.Test.YtfnneogadciimabThen
set_option linter.unusedSimpArgs false
set_option linter.unusedVariables false
set_option linter.unusedSectionVars false
namespace Go.Proofs.Ytfnneogadciimab
open Go.RowKit

def fKernelOf (n : Int) (f : List Int) : List Int × Int := if codeM n f = 0 then (clsOf f, 0) else ([], codeM n f)

theorem codeM_map {n : Int} {f : List Int} (h : codeM n f = 0) : MapP n f := by
  unfold codeM at h
  split at h
  · split at h
    · assumption
    · cases h
  · cases h

theorem map_wf {n : Int} {f : List Int} (h : MapP n f) : ∀ x ∈ f, (Lit.int .i64 x).wf = true := fun x hx => by
  have h1 := h.2.2 x hx
  have h2 := h.1.2
  exact WalkArith.wf_i64 (by omega)

set_option maxHeartbeats 400000 in
set_option maxRecDepth 100000 in
theorem spec_KernelOf (w : World) (n : Int) (v : Value) (f : List Int) (h : Rd w v f) :
    Calls Try.prog 32 #[.int .i64 n, v] w (RetLI w (fKernelOf n f).1 (fKernelOf n f).2) := by
  obtain ⟨c, hc⟩ : ∃ c, codeM n f = c := ⟨_, rfl⟩
  unfold fKernelOf
  rw [hc]
  have HC := Lib.hid hc; clear hc
  by_cases h0 : c = 0
  · subst h0
    rw [if_pos rfl]
    go_enter Try.func32, Try.ntmps32
    go_wp2_with fail
    refine (specCode_any _ _ _ _ 0 h HC.out).mono ?_; rintro e w1 ⟨rfl, hb1⟩
    go_wp2_with fail
    refine (specClasses_any _ _ _ (rd_below hb1 h)).mono ?_; rintro e w2 ⟨y, rfl, hs, hb2⟩
    go_wp2
    go_ret2
    exact ⟨_, rfl, hs.mono hb1.size, hb1.trans (hb2.mono hb1.size)⟩
  · rw [if_neg h0]
    have hne : (c != 0) = true := by simpa using h0
    clear h0
    go_enter Try.func32, Try.ntmps32
    go_wp2_with fail
    refine (specCode_any _ _ _ _ c h HC.out).mono ?_; rintro e w1 ⟨rfl, hb1⟩
    go_wp2
    go_ret2
    exact retLI_nil hb1

set_option maxHeartbeats 400000 in
set_option maxRecDepth 100000 in
theorem impl_KernelOf (w : World) (n : Int) (v : Value) (f : List Int) (h : Rd w v f) :
    Calls Try.prog 33 #[.int .i64 n, v] w (RetLI w (fKernelOf n f).1 (fKernelOf n f).2) := by
  obtain ⟨c, hc⟩ : ∃ c, codeM n f = c := ⟨_, rfl⟩
  unfold fKernelOf
  rw [hc]
  by_cases h0 : c = 0
  · subst h0
    have hw := map_wf (codeM_map hc)
    have HW := Lib.hid hw; clear hw
    have HC := Lib.hid hc; clear hc
    rw [if_pos rfl]
    go_enter Try.func33, Try.ntmps33
    go_wp2_with fail
    refine (implCode_any _ _ _ _ 0 h HC.out).mono ?_; rintro e w1 ⟨rfl, hb1⟩
    go_wp2_with fail
    refine (partBy_any _ _ _ (rd_below hb1 h) HW.out).mono ?_; rintro e w2 ⟨y, rfl, hs, hb2⟩
    go_wp2
    go_ret2
    exact ⟨_, rfl, hs.mono hb1.size, hb1.trans (hb2.mono hb1.size)⟩
  · have HC := Lib.hid hc; clear hc
    rw [if_neg h0]
    have hne : (c != 0) = true := by simpa using h0
    clear h0
    go_enter Try.func33, Try.ntmps33
    go_wp2_with fail
    refine (implCode_any _ _ _ _ c h HC.out).mono ?_; rintro e w1 ⟨rfl, hb1⟩
    go_wp2
    go_ret2
    exact retLI_nil hb1

end Go.Proofs.Ytfnneogadciimab
