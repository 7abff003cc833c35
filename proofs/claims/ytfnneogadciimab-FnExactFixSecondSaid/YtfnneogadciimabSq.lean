
/- Square tables of numbers, and categories within the limits: the model's and the program's tests. -/
import Derived.Test.YtfnneogadciimabShort
import Derived.Test.YtfnneogadciimabEnts
import Derived.Test.YtfnneogadciimabOwnL
set_option linter.unusedSimpArgs false
set_option linter.unusedVariables false
set_option linter.unusedSectionVars false
namespace Go.Proofs.Ytfnneogadciimab
open Go.RowKit


def RowOk (rows : List (List Int)) (b : Int) (i : Nat) : Prop := (row2 rows (i : Int)).length = rows.length ∧ AllP b (row2 rows (i : Int))
def SquareP (rows : List (List Int)) (b : Int) : Prop := ∀ i : Nat, i < rows.length → RowOk rows b i
theorem allP_to {b : Int} {xs : List Int} (h : ∀ j : Nat, j < xs.length → 0 ≤ at0 xs (j : Int) ∧ at0 xs (j : Int) < b) : AllP b xs := fun x hx => by
 obtain ⟨j, hj, rfl⟩ := List.getElem_of_mem hx
 have := h j hj
 rwa [at0_nat, List.getD_eq_getElem?_getD, List.getElem?_eq_getElem hj] at this
theorem allP_not {b : Int} {xs : List Int} {j : Nat} (hj : j < xs.length) (h : ¬ (0 ≤ at0 xs (j : Int) ∧ at0 xs (j : Int) < b)) : ¬ AllP b xs := fun ha => h (allP_at ha hj)
theorem sq_at {rows : List (List Int)} {b : Int} (h : SquareP rows b) {i j : Nat} (hi : i < rows.length) (hj : j < rows.length) : 0 ≤ at0 (row2 rows (i : Int)) (j : Int) ∧ at0 (row2 rows (i : Int)) (j : Int) < b :=
 allP_at (h i hi).2 (by rw [(h i hi).1]; exact hj)
def FitP (c : Cat) : Prop := c.ob ≤ 8 ∧ c.s.length ≤ 40

end Go.Proofs.Ytfnneogadciimab
