
/- Composites of arrows: the model's and the program's. -/
import Derived.Test.YtgkfampgofjkfaaShort
import Derived.Test.YtgkfampgofjkfaaCopy
import Derived.Test.YtgkfampgofjkfaaHom
set_option linter.unusedSimpArgs false
set_option linter.unusedVariables false
set_option linter.unusedSectionVars false
namespace Go.Proofs.Ytgkfampgofjkfaa
open Go.RowKit


noncomputable def arrErr (c : Cat) (xs : List Int) : Int := if fIsCategory c = true then (if AllP c.s.length xs then 0 else 2) else 1
noncomputable def objErr (c : Cat) (xs : List Int) : Int := if fIsCategory c = true then (if AllP c.ob xs then 0 else 2) else 1
theorem arrErr_f {c : Cat} {xs : List Int} (h : fIsCategory c = false) : arrErr c xs = 1 := by unfold arrErr; rw [if_neg (by rw [h]; decide)]
theorem arrErr_r {c : Cat} {xs : List Int} (h : fIsCategory c = true) (hp : ¬ AllP c.s.length xs) : arrErr c xs = 2 := by unfold arrErr; rw [if_pos h, if_neg hp]
theorem arrErr_t {c : Cat} {xs : List Int} (h : fIsCategory c = true) (hp : AllP c.s.length xs) : arrErr c xs = 0 := by unfold arrErr; rw [if_pos h, if_pos hp]
theorem objErr_f {c : Cat} {xs : List Int} (h : fIsCategory c = false) : objErr c xs = 1 := by unfold objErr; rw [if_neg (by rw [h]; decide)]
theorem objErr_r {c : Cat} {xs : List Int} (h : fIsCategory c = true) (hp : ¬ AllP c.ob xs) : objErr c xs = 2 := by unfold objErr; rw [if_pos h, if_neg hp]
theorem objErr_t {c : Cat} {xs : List Int} (h : fIsCategory c = true) (hp : AllP c.ob xs) : objErr c xs = 0 := by unfold objErr; rw [if_pos h, if_pos hp]
theorem arrErr_0 {c : Cat} {xs : List Int} (h : arrErr c xs = 0) : IsCat c ∧ AllP c.s.length xs := by
 cases hI : fIsCategory c with
 | false => rw [arrErr_f hI] at h; simp at h
 | true =>
  by_cases hp : AllP c.s.length xs
  ·exact ⟨isCat_of hI, hp⟩
  ·rw [arrErr_r hI hp] at h; simp at h
theorem objErr_0 {c : Cat} {xs : List Int} (h : objErr c xs = 0) : IsCat c ∧ AllP c.ob xs := by
 cases hI : fIsCategory c with
 | false => rw [objErr_f hI] at h; simp at h
 | true =>
  by_cases hp : AllP c.ob xs
  ·exact ⟨isCat_of hI, hp⟩
  ·rw [objErr_r hI hp] at h; simp at h
noncomputable def arrCat (c : Cat) (xs : List Int) : Cat := if arrErr c xs = 0 then c else cat0
noncomputable def objCat (c : Cat) (xs : List Int) : Cat := if objErr c xs = 0 then c else cat0
theorem arrCat_t {c : Cat} {xs : List Int} (h : arrErr c xs = 0) : arrCat c xs = c := if_pos h
theorem objCat_t {c : Cat} {xs : List Int} (h : objErr c xs = 0) : objCat c xs = c := if_pos h
noncomputable def fCompositeOf (c : Cat) (f g : Int) : Int × Int := if arrErr c [f, g] = 0 then (if at0 c.t f = at0 c.s g then (c.th f g, 0) else (0, 5)) else (0, arrErr c [f, g])
theorem comp_err {c : Cat} {f g : Int} (h : arrErr c [f, g] ≠ 0) : fCompositeOf c f g = (0, arrErr c [f, g]) := if_neg h
theorem comp_s {c : Cat} {f g : Int} (h : arrErr c [f, g] = 0) (h' : at0 c.t f ≠ at0 c.s g) : fCompositeOf c f g = (0, 5) := by unfold fCompositeOf; rw [if_pos h, if_neg h']
theorem comp_t {c : Cat} {f g : Int} (h : arrErr c [f, g] = 0) (h' : at0 c.t f = at0 c.s g) : fCompositeOf c f g = (c.th f g, 0) := by unfold fCompositeOf; rw [if_pos h, if_pos h']
theorem th_none {c : Cat} (hS : ShapeP c) {f g : Int} (f0 : 0 ≤ f) (f1 : f < c.s.length) (g0 : 0 ≤ g) (g1 : g < c.s.length) : c.th f g = -1 ↔ at0 c.t f ≠ at0 c.s g := by
 obtain ⟨a, rfl⟩ := Int.eq_ofNat_of_zero_le f0
 obtain ⟨b, rfl⟩ := Int.eq_ofNat_of_zero_le g0
 have hc := hS.co a b (by omega) (by omega)
 constructor
 ·intro h he
  have := (hc.1 he).1.1
  omega
 ·exact hc.2

end Go.Proofs.Ytgkfampgofjkfaa
