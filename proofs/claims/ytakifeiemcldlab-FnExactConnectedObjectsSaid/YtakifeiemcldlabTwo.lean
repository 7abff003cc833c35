
/- The error of two maps from one set. -/
import Derived.Test.YtakifeiemcldlabCode
namespace Go.Proofs.Ytakifeiemcldlab
open Go.RowKit

def codeTwo (n : Int) (f g : List Int) : Int := if codeM n f = 0 then (if MapP n g ∧ f.length = g.length then 0 else 1) else codeM n f

set_option maxHeartbeats 800000 in
set_option maxRecDepth 100000 in
theorem specTwo_any (w : World) (n : Int) (v u : Value) (f g : List Int) (c : Int) (hf : Rd w v f) (hg : Rd w u g) (hc : codeTwo n f g = c) :
    Calls Try.prog 105 #[.int .i64 n, v, u] w (RetI w c) := by
  unfold codeTwo at hc
  have Rf := hf
  have Rg := hg
  obtain ⟨a1, cap1, rfl, l1, _⟩ := hf
  obtain ⟨a2, cap2, rfl, l2, _⟩ := hg
  by_cases h0 : codeM n f = 0
  · rw [if_pos h0] at hc
    have hs : SizeP n := by
      by_cases hs : SizeP n
      · exact hs
      · simp [codeM, hs] at h0
    have H0 := Lib.hid h0; clear h0
    by_cases hm : MapP n g
    · have HG : Hid (codeM n g = 0) := by exact Lib.hid (by simp [codeM, hs, hm])
      by_cases hl : f.length = g.length
      · rw [if_pos ⟨hm, hl⟩] at hc
        subst hc
        have e1 : ((f.length : Int) != (g.length : Int)) = false := by simp [hl]
        clear hl hm
        go_enter Try.func105, Try.ntmps105
        go_wp2_with fail
        refine (specCode_any _ _ _ _ 0 Rf H0.out).mono ?_; rintro e w1 ⟨rfl, hb1⟩
        go_wp2_with fail
        refine (specCode_any _ _ _ _ 0 (rd_below hb1 Rg) HG.out).mono ?_; rintro e w2 ⟨rfl, hb2⟩
        go_wp2
        go_ret
        exact ⟨rfl, hb1.trans (hb2.mono hb1.size)⟩
      · rw [if_neg (fun h => hl h.2)] at hc
        subst hc
        have e1 : ((f.length : Int) != (g.length : Int)) = true := by rw [bne_iff_ne]; omega
        clear hl hm
        go_enter Try.func105, Try.ntmps105
        go_wp2_with fail
        refine (specCode_any _ _ _ _ 0 Rf H0.out).mono ?_; rintro e w1 ⟨rfl, hb1⟩
        go_wp2_with fail
        refine (specCode_any _ _ _ _ 0 (rd_below hb1 Rg) HG.out).mono ?_; rintro e w2 ⟨rfl, hb2⟩
        go_wp2
        go_ret
        exact ⟨rfl, hb1.trans (hb2.mono hb1.size)⟩
    · have HG : Hid (codeM n g = 1) := by exact Lib.hid (by simp [codeM, hs, hm])
      rw [if_neg (fun h => hm h.1)] at hc
      subst hc
      clear hm
      go_enter Try.func105, Try.ntmps105
      go_wp2_with fail
      refine (specCode_any _ _ _ _ 0 Rf H0.out).mono ?_; rintro e w1 ⟨rfl, hb1⟩
      go_wp2_with fail
      refine (specCode_any _ _ _ _ 1 (rd_below hb1 Rg) HG.out).mono ?_; rintro e w2 ⟨rfl, hb2⟩
      go_wp2
      go_ret
      exact ⟨rfl, hb1.trans (hb2.mono hb1.size)⟩
  · rw [if_neg h0] at hc
    have HC := Lib.hid hc
    have e1 : (c == 0) = false := by rw [← hc]; simpa using h0
    have e2 : (c != 0) = true := by rw [← hc]; simpa using h0
    clear hc h0
    go_enter Try.func105, Try.ntmps105
    go_wp2_with fail
    refine (specCode_any _ _ _ _ c Rf HC.out).mono ?_; rintro e w1 ⟨rfl, hb1⟩
    go_wp2
    go_ret
    exact ⟨rfl, hb1⟩

set_option maxHeartbeats 800000 in
set_option maxRecDepth 100000 in
theorem implTwo_any (w : World) (n : Int) (v u : Value) (f g : List Int) (c : Int) (hf : Rd w v f) (hg : Rd w u g) (hc : codeTwo n f g = c) :
    Calls Try.prog 95 #[.int .i64 n, v, u] w (RetI w c) := by
  unfold codeTwo at hc
  have Rf := hf
  have Rg := hg
  obtain ⟨a1, cap1, rfl, l1, _⟩ := hf
  obtain ⟨a2, cap2, rfl, l2, _⟩ := hg
  by_cases h0 : codeM n f = 0
  · rw [if_pos h0] at hc
    have hs : SizeP n := by
      by_cases hs : SizeP n
      · exact hs
      · simp [codeM, hs] at h0
    have H0 := Lib.hid h0; clear h0
    by_cases hm : MapP n g
    · have HG : Hid (decide (MapP n g) = true) := by exact Lib.hid (decide_eq_true hm)
      by_cases hl : f.length = g.length
      · rw [if_pos ⟨hm, hl⟩] at hc
        subst hc
        have e1 : ((f.length : Int) != (g.length : Int)) = false := by simp [hl]
        clear hl hm
        go_enter Try.func95, Try.ntmps95
        go_wp2_with fail
        refine (implCode_any _ _ _ _ 0 Rf H0.out).mono ?_; rintro e w1 ⟨rfl, hb1⟩
        go_wp2_with fail
        refine (implIsMap_any _ _ _ _ true (rd_below hb1 Rg) HG.out).mono ?_; rintro e w2 ⟨rfl, hb2⟩
        go_wp2
        go_ret
        exact ⟨rfl, hb1.trans (hb2.mono hb1.size)⟩
      · rw [if_neg (fun h => hl h.2)] at hc
        subst hc
        have e1 : ((f.length : Int) != (g.length : Int)) = true := by rw [bne_iff_ne]; omega
        clear hl hm
        go_enter Try.func95, Try.ntmps95
        go_wp2_with fail
        refine (implCode_any _ _ _ _ 0 Rf H0.out).mono ?_; rintro e w1 ⟨rfl, hb1⟩
        go_wp2_with fail
        refine (implIsMap_any _ _ _ _ true (rd_below hb1 Rg) HG.out).mono ?_; rintro e w2 ⟨rfl, hb2⟩
        go_wp2
        go_ret
        exact ⟨rfl, hb1.trans (hb2.mono hb1.size)⟩
    · have HG : Hid (decide (MapP n g) = false) := by exact Lib.hid (decide_eq_false hm)
      rw [if_neg (fun h => hm h.1)] at hc
      subst hc
      clear hm
      go_enter Try.func95, Try.ntmps95
      go_wp2_with fail
      refine (implCode_any _ _ _ _ 0 Rf H0.out).mono ?_; rintro e w1 ⟨rfl, hb1⟩
      go_wp2_with fail
      refine (implIsMap_any _ _ _ _ false (rd_below hb1 Rg) HG.out).mono ?_; rintro e w2 ⟨rfl, hb2⟩
      go_wp2
      go_ret
      exact ⟨rfl, hb1.trans (hb2.mono hb1.size)⟩
  · rw [if_neg h0] at hc
    have HC := Lib.hid hc
    have e1 : (c == 0) = false := by rw [← hc]; simpa using h0
    have e2 : (c != 0) = true := by rw [← hc]; simpa using h0
    clear hc h0
    go_enter Try.func95, Try.ntmps95
    go_wp2_with fail
    refine (implCode_any _ _ _ _ c Rf HC.out).mono ?_; rintro e w1 ⟨rfl, hb1⟩
    go_wp2
    go_ret
    exact ⟨rfl, hb1⟩

end Go.Proofs.Ytakifeiemcldlab
