
/- One functor behind another: both sides. -/
import Derived.Test.YtpppoipaabofgabFunM
import Derived.Test.YtpppoipaabofgabFunL
import Derived.Test.YtpppoipaabofgabThE
import Derived.Test.YtpppoipaabofgabThen
set_option linter.unusedSimpArgs false
set_option linter.unusedVariables false
set_option linter.unusedSectionVars false
namespace Go.Proofs.Ytpppoipaabofgab
open Go.RowKit


def thenF (F G : Fct) : Fct := ⟨F.S, G.T, thenL F.o G.o, thenL F.a G.a⟩
noncomputable def fThenFunctors (F G : Fct) : Fct × Int := if twoFE F G = 0 then (if bP (F.T = G.S) = true then (thenF F G, 0) else (fct0, 5)) else (fct0, 1)
theorem thf_t {F G : Fct} (h : twoFE F G = 0) (h' : F.T = G.S) : fThenFunctors F G = (thenF F G, 0) := by unfold fThenFunctors; rw [if_pos h, if_pos (bP_t h')]
theorem thf_s {F G : Fct} (h : twoFE F G = 0) (h' : ¬ F.T = G.S) : fThenFunctors F G = (fct0, 5) := by unfold fThenFunctors; rw [if_pos h, if_neg (by rw [bP_f h']; decide)]
theorem thf_f {F G : Fct} (h : ¬ twoFE F G = 0) : fThenFunctors F G = (fct0, 1) := if_neg h
theorem thenL_len (f g : List Int) : (thenL f g).length = f.length := by simp [thenL]
theorem thenL_tab (f g : List Int) : tabTo (fun j => at0 g (at0 f (j : Int))) f.length = thenL f g := tab_map (fun y => at0 g y) f
theorem isf_lens {F : Fct} (h : fIsFunctor F = true) : F.o.length ≤ 8 ∧ F.a.length ≤ 40 ∧ mzC F.S ≤ 1720 ∧ mzC F.T ≤ 1720 := by
  have hF := isf_of h
  have hS := (isCat_of hF.cs).toShapeP
  have h1 := hS.ob8; have h2 := hS.n40; have h3 := hF.lo; have h4 := hF.la
  exact ⟨by omega, by omega, mz_cat hF.cs, mz_cat hF.ct⟩
theorem bound_ThenFunctors (F G : Fct) : mzF (fThenFunctors F G).1 ≤ 3500000000000000 := by
  by_cases h : twoFE F G = 0
  · by_cases h' : F.T = G.S
    · have h1 := isf_lens (twoFE_0 h).1; have h2 := isf_lens (twoFE_0 h).2
      rw [thf_t h h']
      show mzC F.S + mzC G.T + (thenL F.o G.o).length + (thenL F.a G.a).length ≤ _
      rw [thenL_len, thenL_len]; omega
    · rw [thf_s h h']; decide
  · rw [thf_f h]; decide

end Go.Proofs.Ytpppoipaabofgab
