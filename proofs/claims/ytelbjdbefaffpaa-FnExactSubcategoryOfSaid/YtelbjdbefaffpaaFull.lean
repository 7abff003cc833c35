
/- Full subcategories: both sides. -/
import Derived.Test.YtelbjdbefaffpaaPart
set_option linter.unusedSimpArgs false
set_option linter.unusedVariables false
set_option linter.unusedSectionVars false
namespace Go.Proofs.Ytelbjdbefaffpaa
open Go.RowKit


noncomputable def fFullSubcategory (c : Cat) (xs : List Int) : Cat × Int := if objErr c xs = 0 then (if bP (risesTo xs xs.length) = true then (partC c (fullL c xs c.s.length), 0) else (cat0, 5)) else (cat0, objErr c xs)
theorem full_e {c : Cat} {xs : List Int} (h : ¬ objErr c xs = 0) : fFullSubcategory c xs = (cat0, objErr c xs) := if_neg h
theorem full_n {c : Cat} {xs : List Int} (h : objErr c xs = 0) (h' : bP (risesTo xs xs.length) = false) : fFullSubcategory c xs = (cat0, 5) := by unfold fFullSubcategory; rw [if_pos h, if_neg (by rw [h']; decide)]
theorem full_t {c : Cat} {xs : List Int} (h : objErr c xs = 0) (h' : bP (risesTo xs xs.length) = true) : fFullSubcategory c xs = (partC c (fullL c xs c.s.length), 0) := by unfold fFullSubcategory; rw [if_pos h, if_pos h']
theorem fullL_all (c : Cat) (xs : List Int) : AllP c.s.length (fullL c xs c.s.length) := by
  intro x hx
  simp only [fullL, List.mem_map, List.mem_filter, List.mem_range] at hx
  obtain ⟨j, ⟨h1, _⟩, rfl⟩ := hx
  omega

theorem part_small {c : Cat} {xs : List Int} (hS : ShapeP c) (hl : xs.length ≤ 40) : mzC (partC c xs) ≤ 1152921504606846 := by
  have hel := hS.el; have hob8 := hS.ob8
  have h1 := pO_len c xs c.e.length
  refine mz_small (show (tabTo _ _).length ≤ 40 by rw [tabTo_len]; exact hl) (show (tabTo _ _).length ≤ 40 by rw [tabTo_len]; exact hl) (show (pE c xs c.e.length).length ≤ 40 by rw [pE_len]; omega) (show (rowsTo _ _).length ≤ 40 by rw [rowsTo_len]; exact hl) fun i hi => ?_
  have hi : i < xs.length := by rw [show (partC c xs).m.length = xs.length from rowsTo_len _ _] at hi; exact hi
  rw [show row2 (partC c xs).m (i : Int) = tabTo _ _ from rowsTo_at _ hi, tabTo_len]; exact hl
theorem bound_FullSubcategory (c : Cat) (xs : List Int) : mzC (fFullSubcategory c xs).1 ≤ 1152921504606846 := by
  by_cases h : objErr c xs = 0
  · cases h2 : bP (risesTo xs xs.length) with
    | false => rw [full_n h h2]; decide
    | true =>
      have hS := (objErr_0 h).1.toShapeP
      have hn40 := hS.n40
      have hfl := fullL_len c xs c.s.length
      rw [full_t h h2]
      exact part_small hS (by omega)
  · rw [full_e h]; show mzC cat0 ≤ _; decide

end Go.Proofs.Ytelbjdbefaffpaa
