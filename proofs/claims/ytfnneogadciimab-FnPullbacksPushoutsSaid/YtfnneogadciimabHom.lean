
/- Hom sets: the model's and the program's. -/
import Derived.Test.YtfnneogadciimabShort
import Derived.Test.YtfnneogadciimabRul4
set_option linter.unusedSimpArgs false
set_option linter.unusedVariables false
set_option linter.unusedSectionVars false
namespace Go.Proofs.Ytfnneogadciimab
open Go.RowKit


def homTo (c : Cat) (x y : Int) (k : Nat) : List Int := ((List.range k).filter fun (j : Nat) => decide (at0 c.s j = x ∧ at0 c.t j = y)).map fun (j : Nat) => (j : Int)
theorem homTo_succ_t {c : Cat} {x y : Int} {k : Nat} (h : at0 c.s k = x) (h' : at0 c.t k = y) : homTo c x y (k + 1) = homTo c x y k ++ [(k : Int)] := by
 simp [homTo, List.range_succ, List.filter_append, h, h']
theorem homTo_succ_f {c : Cat} {x y : Int} {k : Nat} (h : ¬ (at0 c.s k = x ∧ at0 c.t k = y)) : homTo c x y (k + 1) = homTo c x y k := by
 simp [homTo, List.range_succ, List.filter_append, h]
theorem homTo_len (c : Cat) (x y : Int) (k : Nat) : (homTo c x y k).length ≤ k := by
 have := List.length_filter_le (fun (j : Nat) => decide (at0 c.s j = x ∧ at0 c.t j = y)) (List.range k)
 simpa [homTo] using this

end Go.Proofs.Ytfnneogadciimab
