
/- Questions about a functor: the program's reader that passes it on. -/
import Derived.Test.YtpppoipaabofgaaFunM
set_option linter.unusedSimpArgs false
set_option linter.unusedVariables false
set_option linter.unusedSectionVars false
namespace Go.Proofs.Ytpppoipaabofgaa
open Go.RowKit


noncomputable def askB (F : Fct) (b : Bool) : Bool := if fIsFunctor F = true then b else false
noncomputable def askL (F : Fct) (xs : List Int) : List Int := if fIsFunctor F = true then xs else []
theorem askB_t {F : Fct} {b : Bool} (h : fIsFunctor F = true) : askB F b = b := if_pos h
theorem askB_f {F : Fct} {b : Bool} (h : fIsFunctor F = false) : askB F b = false := if_neg (by rw [h]; decide)
theorem askL_t {F : Fct} {b : List Int} (h : fIsFunctor F = true) : askL F b = b := if_pos h
theorem askL_f {F : Fct} {b : List Int} (h : fIsFunctor F = false) : askL F b = [] := if_neg (by rw [h]; decide)

end Go.Proofs.Ytpppoipaabofgaa
